import Derived.Test.YtcdahmommonnfaaGreatDoorJ7
import Derived.MapKept
set_option maxRecDepth 100000
set_option maxHeartbeats 8000000
namespace Go.Proofs.YtcdahmommonnfaaGreatDoor
set_option linter.all false
open Go.RowKit
open Go.Proofs.Tryz
theorem Wt {P:Program}{fn:Func}{R:Ending->World->Prop}{a:Act}{w:World}{p u:Tmp}{ty:TypeId}(hf:fn.results=#[.cell p ty,.tmp u])(g:Nat)(hp:a.tmps.getD p undef= .pointer (some ⟨g,0,none⟩))
  {t:TypeId}{cs:Array Value}(hr:Row w g cs t)(fs:Array Field)(hu:P.underlying ty=some (.struct fs))(hi:(P.info? ty).map (·.size)=some cs.size)(hd:a.defers=[])
  (v:Value)(hv:a.tmps.getD u undef=v)(h:R (.returned (.tuple #[.agg cs,v])) w):bodyPost P fn R .ret a w:=by
 refine bodyPost_ret (v:=.tuple #[.agg cs,v]) ?_ hd h;rw[results_cell_tmp hf,hp,hv];simp only[asAddr,Sem.run_pure,Result.andThen_ok];rw[run_loadVar_row w g t ty cs (0,0) _ hr hu rfl hi];rfl
section
variable {P:Program}{ops:Array Oper}{Q:Exit->Act->World->Prop}{rest:List Oper}{o:Oper}{a:Act}{w:World}
end
theorem T6 (z:Int)(h1: -9223372036854775808<=z)(h2:z<9223372036854775808):IntKind.i64.wrap z=z:=by
 rw[IntKind.wrap_i64];omega
section
variable {P:Program}{o:Oper}{ρ:Operand->Value}
theorem Xi (t:TypeId)(x y:Operand)(u:TypeId)(ho:o.op= .binOp .add t x y u)(n m r:Int)(hx:ρ x= .int .i64 n)(hy:ρ y= .int .i64 m)(hr:n+m=r)(h1: -9223372036854775808<=r)(h2:r<9223372036854775808)(w:World):
  (execOp ρ o).run P w= .ok (.value (.int .i64 r)) w:=by
 subst hr;unfold execOp;simp only[ho,hx,hy];simp[go_sem];exact T6 _ h1 h2
theorem VQ (t:TypeId)(x y:Operand)(u:TypeId)(ho:o.op= .binOp .mul t x y u)(n m r:Int)(hx:ρ x= .int .i64 n)(hy:ρ y= .int .i64 m)(hr:n*m=r)(h1: -9223372036854775808<=r)(h2:r<9223372036854775808)(w:World):
  (execOp ρ o).run P w= .ok (.value (.int .i64 r)) w:=by
 subst hr;unfold execOp;simp only[ho,hx,hy];simp[go_sem];exact T6 _ h1 h2
theorem WZ (t:TypeId)(x y:Operand)(u:TypeId)(ho:o.op= .binOp .sub t x y u)(n m r:Int)(hx:ρ x= .int .i64 n)(hy:ρ y= .int .i64 m)(hr:n-m=r)(h1: -9223372036854775808<=r)(h2:r<9223372036854775808)(w:World):
  (execOp ρ o).run P w= .ok (.value (.int .i64 r)) w:=by
 subst hr;unfold execOp;simp only[ho,hx,hy];simp[go_sem];exact T6 _ h1 h2
end
section
variable {k:Nat}{w w2:World}{ab:Option Addr}{n:Nat}{C D:Nat->Array Value}{gb ob:Nat}{bcs:Array Value}{tb:TypeId}
variable {e:TypeId}{S:List Nat}{bs:Nat}{v:Value}
end
section
variable {P:Program}{ops:Array Oper}{Q:Exit->Act->World->Prop}{rest:List Oper}{o:Oper}{a:Act}{w:World}
end
structure MapI (w:World)(b:Nat)(U:Int->Int):Prop where
 out: ∃(es:Array MapEntry) (clock:Nat),w.heap[b]?=some (.map es clock)/\MapKept.Stamped es clock/\(∀x∈es.toList,MapKept.IsKey (.int .i64) x.key)/\(∀x∈es.toList,∀k,x.key= .int .i64 k->x.val= .int .i64 (U k))/\ ∀k,(∀x∈es.toList,x.key≠ .int .i64 k)->U k=0
theorem MapI.lt {w:World}{b:Nat}{U:Int->Int}(h:MapI w b U):b<w.heap.size:=by
 obtain⟨es,cl,hb,_⟩:=h.out;exact(Array.getElem?_eq_some_iff.1 hb).1
theorem MapI.on {w w2:World}{b:Nat}{U:Int->Int}{S:List Nat}(h:MapI w b U)(hk:Kept S w w2)(hS:b∉S):MapI w2 b U:=by
 have hl:=h.lt;obtain⟨es,cl,hb,h1⟩:=h.out;exact⟨es,cl,(hk.block b hl hS).trans hb,h1⟩
theorem MapI.below {w w2:World}{b:Nat}{U:Int->Int}(h:MapI w b U)(hb:Below w.heap.size w w2):MapI w2 b U:=h.on (Kept.ofBelow hb) (by simp)
theorem MapI.made (w:World):MapI (w.alloc (.map #[] 0)) w.heap.size fun _=>0:=
 ⟨#[],0,(MapKept.heap_alloc w _).1,MapKept.stamped_empty 0,by simp,by simp,fun _ _=>rfl⟩
theorem MapI.ne {w:World}{b g:Nat}{U:Int->Int}{c:Array Value}{t:TypeId}(h:MapI w b U)(r:Row w g c t):g≠b:=by
 rintro rfl;obtain⟨es,cl,hb,_⟩:=h.out;have:=r.symm.trans hb;cases this
section
variable {P:Program}{mt kt et:TypeId}{w:World}{b:Nat}{U:Int->Int}
theorem MapI.put (h:MapI w b U)(hm:P.underlying mt=some (.map kt et))(hk:P.underlying kt=some (.int .i64))(k v:Int):
  ∃w',(Instr.mapUpdate mt (.map (some b)) (.int .i64 k) (.int .i64 v)).run P w= .ok () w'/\MapI w' b (fun j=>if j=k then v else U j)/\Kept [b] w w':=by
 have hl:=h.lt;obtain⟨es,cl,hb,hs,hks,hv,h0⟩:=h.out;have hK:MapKept.IsKey (.int .i64) (.int .i64 k):=rfl
 have hkp: ∀o,Kept [b] w {w with heap:=w.heap.setIfInBounds b o}:=fun o=>⟨rfl,rfl,rfl,by simp,fun i _ hi=>by
  have:b≠i:=fun e=>hi (by rw[e];exact List.mem_singleton.2 rfl)
  simp[this]⟩
 have hat: ∀o:Obj,({w with heap:=w.heap.setIfInBounds b o}:World).heap[b]?=some o:=fun o=>by simp[hl]
 rcases MapKept.findNow_spec hK es.toList 0 hks with ⟨h1,h2⟩|⟨j,e,h1,h2,h3⟩
 ·refine⟨_,?_,⟨es.push {key:=.int .i64 k,val:=.int .i64 v,born:=cl},cl+1,hat _,MapKept.stamped_push hs h2,?_,?_,?_⟩,hkp _⟩
  ·simp[Instr.mapUpdate,run_underlying hm,MapKept.run_getObj_map hb,MapKept.run_checkKey hk hK,MapKept.run_findKey hk h1,MapKept.run_setObj_map _ hb,Result.andThen]
  ·intro x hx;rw[Array.toList_push,List.mem_append,List.mem_singleton]at hx;rcases hx with hx|rfl
   ·exact hks x hx
   ·exact hK
  ·intro x hx i hi;rw[Array.toList_push,List.mem_append,List.mem_singleton]at hx;rcases hx with hx|rfl
   ·have hne:i≠k:=fun q=>h2 x hx (by rw[hi,q])
    rw[if_neg hne];exact hv x hx i hi
   ·have:k=i:=by simpa using hi
    rw[if_pos this.symm]
  ·intro i hi;rw[Array.toList_push]at hi;have hne:i≠k:=fun q=>hi _ (List.mem_append_right _ (List.mem_singleton.2 rfl)) (by rw[q])
   rw[if_neg hne];exact h0 i fun x hx=>hi x (List.mem_append_left _ hx)
 ·have h2a:es[j]?=some e:=by rw[<-Array.getElem?_toList];exact h2
  have hkey: ∀e',es[j]?=some e'->({e' with key:=.int .i64 k,val:=.int .i64 v}:MapEntry).key=e'.key:=fun e' he'=>by
   rw[h2a]at he';obtain rfl:=Option.some.inj he';exact h3.symm
  refine⟨_,?_,⟨es.modify j (fun e=>{e with key:=.int .i64 k,val:=.int .i64 v}),cl,hat _,MapKept.stamped_modify hs j _ (fun _ _=>rfl) (fun e' _ he'=>hkey e' he'),MapKept.isKey_modify hks j _ hkey,?_,?_⟩,hkp _⟩
  ·simp[Instr.mapUpdate,run_underlying hm,MapKept.run_getObj_map hb,MapKept.run_checkKey hk hK,MapKept.run_findKey hk h1,h2a,h3,MapKept.run_keyThatStays hK,MapKept.run_setObj_map _ hb,Result.andThen]
  ·intro x hx i hi;obtain⟨n,hn⟩:=List.mem_iff_getElem?.1 hx;rw[Array.getElem?_toList,Array.getElem?_modify]at hn;by_cases hjn:j=n
   ·subst hjn;rw[if_pos rfl,h2a]at hn;obtain rfl:=Option.some.inj hn;have:k=i:=by simpa using hi
    rw[if_pos this.symm]
   ·rw[if_neg hjn]at hn;have hxm:x∈es.toList:=List.mem_iff_getElem?.2 ⟨n,by rw[Array.getElem?_toList];exact hn⟩
    have hne:i≠k:=fun q=>by
     have hd:=hs.2.2;have a1:(es.toList.map (·.key))[j]?=some (.int .i64 k):=by rw[List.getElem?_map,h2,Option.map_some,h3]
     have a2:(es.toList.map (·.key))[n]?=some (.int .i64 k):=by rw[List.getElem?_map,Array.getElem?_toList,hn,Option.map_some,hi,q]
     obtain⟨l1,e1⟩:=List.getElem?_eq_some_iff.1 a1;obtain⟨l2,e2⟩:=List.getElem?_eq_some_iff.1 a2;rcases Nat.lt_or_ge j n with hl'|hl'
     ·exact List.pairwise_iff_getElem.1 hd j n l1 l2 hl' (e1.trans e2.symm)
     ·exact List.pairwise_iff_getElem.1 hd n j l2 l1 (by omega) (e2.trans e1.symm)
    rw[if_neg hne];exact hv x hxm i hi
  ·intro i hi;have hmk:=MapKept.modify_keys (es:=es) j (fun e=>({e with key:=.int .i64 k,val:=.int .i64 v}:MapEntry)) hkey
   have hni:(.int .i64 i:Value)∉es.toList.map (·.key):=by
    rw[<-hmk];intro hm';obtain⟨x,hx,e1⟩:=List.mem_map.1 hm';exact hi x hx e1
   have hne:i≠k:=fun q=>hni (List.mem_map.2 ⟨e,List.mem_of_getElem? h2,by rw[h3,q]⟩)
   rw[if_neg hne];exact h0 i fun x hx e1=>hni (List.mem_map.2 ⟨x,hx,e1⟩)
end
section
variable {P:Program}{ops:Array Oper}{Q:Exit->Act->World->Prop}{rest:List Oper}{o:Oper}{a:Act}{w:World}
end
def stCx (l:List Ky)(i:Nat):Array Value:=#[.string ⟨(l.getD i []).toArray⟩]
def inC (l:List Int)(i:Nat):Array Value:=#[.int .i64 (l.getD i 0)]
abbrev Ac:=Ky×Int
def ac0:Ac:=([],0)
def acA (x:Ac):Array Value:=#[.string ⟨x.1.toArray⟩,.int .i64 x.2]
def acC (l:List Ac)(i:Nat):Array Value:=acA (l.getD i ac0)
def sxCx (n m:Int)(kv mv:Value):Array Value:=#[.int .i64 n,.int .i64 m,kv,mv]
theorem neg_mul (a Q:Nat)(hQ:0<Q):a*(Q-1)%Q=sbN 0 a Q:=by
 unfold sbN;rw[Nat.zero_mod,Nat.zero_add,Nat.mul_mod,Nat.mul_mod_mod];have hr:=Nat.mod_lt a hQ;generalize a%Q=r at*
 cases r with
 |zero=>rw[Nat.zero_mul,Nat.zero_mod,Nat.sub_zero,Nat.mod_self]
 |succ r=>
  have e:(r+1)*(Q-1)=(Q-(r+1))+Q*r:=by
   obtain⟨k,rfl⟩: ∃k,Q=r+1+k:=⟨Q-(r+1),by omega⟩
   rw[show r+1+k-1=r+k by omega,Nat.add_sub_cancel_left];simp only[Nat.add_mul,Nat.mul_add,Nat.one_mul];rw[Nat.mul_comm k r];omega
  rw[e,Nat.add_mul_mod_self_left]
theorem Rn (v r ab ae:Option Addr)(n m ca ce S:Nat)(z:Int)(w:World)(hq: ∀w',Below w.heap.size w w'->Calls prog 272 #[.pointer v] w' (Rt (.pointer r) w'))
  (hpr: ∀w',Below w.heap.size w w'->Calls prog 87 #[.pointer r,.slice ab n ca,.slice ae m ce] w' (Rt (.tuple #[.agg (Zc S),.int .i64 z]) w')):
  Calls prog 268 #[.pointer v,.slice ae m ce,.slice ab n ca] w fun e w'=>e= .returned (.tuple #[.agg (Zc S),.int .i64 z])/\Below w.heap.size w w':=by
 go_enter func268,ntmps268
 iterate 2 go_step
 refine rp ?_;refine ZJ (by rfl) 39 rfl _ Zv ?_;intro g6 z0 n0 r6 k;simp only[pv];have b6:w.heap.size<=g6:=n0;clear n0;have sb:=k_b k;clear k;refine p_v (.int .i64 0) (fun _=>rfl) (Za ?_);simp only[pv];iterate 3 go_step
 refine rp ?_;refine p_m ?_;simp only[pv];refine p_c 272 func272 #[.pointer v] (hq _ sb) ?_;intro z1001 k;simp only[pv];replace r6:=k.ro r6;replace sb:=kk sb k;clear k;refine p_m ?_;refine p_m ?_;simp only[pv];refine p_c 87 func87 #[.pointer r,.slice ab n ca,.slice ae m ce] (hpr _ sb) ?_;intro z1004 k;simp only[pv];replace r6:=k.ro r6;replace sb:=kk sb k;clear k;refine p_e ?_;refine p_e ?_;simp only[pv];refine p_p r6 S ?_;clear r6;intro z1007 r6 k;simp only[Act.put];replace sb:=kk sb k;clear k;refine p_a (Za ?_);simp only[pv];go_wp2;exact Yl rfl _ rfl r6 4 _ underlying39 (by exact Ze) rfl _ rfl ⟨rfl,sb⟩
theorem M6 (v:Option Addr)(A E S:Nat)(z:Int)(w:World)
  (hra: ∀w',Below w.heap.size w w'-> ∀x y,Row w' x (Zc A) 39->Row w' y (Zc E) 39->Calls prog 268 #[.pointer v,.slice (some ⟨y,0,none⟩) 1 1,.slice (some ⟨x,0,none⟩) 1 1] w' (Rt (.tuple #[.agg (Zc S),.int .i64 z]) w')):
  Calls prog 255 #[.pointer v,.agg (Zc A),.agg (Zc E)] w fun e w'=>e= .returned (.agg (Zc S))/\Below w.heap.size w w':=by
 obtain⟨ie,hie,hz,hsz,_⟩:=YL
 have hs1: ¬1*ie.size>2^24:=by rw[hsz];decide
 have hs2: ¬1*ie.size=0:=by rw[hsz];decide
 have hlA:=Ut A ie.size hsz;have hlE:=Ut E ie.size hsz
 go_enter func255,ntmps255
 iterate 2 go_step
 refine rp ?_;refine ZD (by rfl) 39 _ rfl (_) rfl ?_;intro g4 z0 n0 r4 k;simp only[pv];have b4:w.heap.size<=g4:=n0;clear n0;have sb:=k_b k;clear k;refine ZD (by rfl) 39 _ rfl (_) rfl ?_;intro g5 z1 n0 r5 k;simp only[pv];have d4x5:=l_l r4.lt n0;have b5:=Nat.le_trans sb.size n0;clear n0;replace r4:=k.ro r4;replace sb:=kk sb k;clear k;refine ZJ (by rfl) 39 rfl _ Zv ?_;intro g6 z2 n0 r6 k;simp only[pv];have d4x6:=l_l r4.lt n0;have d5x6:=l_l r5.lt n0;have b6:=Nat.le_trans sb.size n0;clear n0;replace r4:=k.ro r4;replace r5:=k.ro r5;replace sb:=kk sb k;clear k;refine Za ?_;iterate 3 go_step
 refine rp ?_;refine p_m ?_;simp only[pv];refine p_l r5.r ?_;simp only[pv];refine Xg (by rfl) 54 39 1 _ rfl (Zc E) ie _ underlying54 hie hz hs1 hs2 [(0,.agg (Zc E))] rfl hlE ?_;intro gU z1002 n0 rU k;simp only[pv];have d4xU:=l_l r4.lt n0;have d5xU:=l_l r5.lt n0;have d6xU:=l_l r6.lt n0;have bU:=Nat.le_trans sb.size n0;clear n0;replace r4:=k.ro r4;replace r5:=k.ro r5;replace r6:=k.ro r6;replace sb:=kk sb k;clear k;refine p_l r4.r ?_;simp only[pv];refine Xg (by rfl) 54 39 1 _ rfl (Zc A) ie _ underlying54 hie hz hs1 hs2 [(0,.agg (Zc A))] rfl hlA ?_;intro gV z1004 n0 rV k;simp only[pv];have d4xV:=l_l r4.lt n0;have d5xV:=l_l r5.lt n0;have d6xV:=l_l r6.lt n0;have dUxV:=l_l rU.lt n0;have bV:=Nat.le_trans sb.size n0;clear n0;replace r4:=k.ro r4;replace r5:=k.ro r5;replace r6:=k.ro r6;replace rU:=k.ro rU;replace sb:=kk sb k;clear k;refine p_c 268 func268 #[.pointer v,.slice (some ⟨gU,0,none⟩) 1 1,.slice (some ⟨gV,0,none⟩) 1 1] (hra _ sb gV gU rV rU) ?_;intro z1005 k;simp only[pv];replace r4:=k.ro r4;replace r5:=k.ro r5;replace r6:=k.ro r6;replace rU:=k.ro rU;replace rV:=k.ro rV;replace sb:=kk sb k;clear k;refine p_m ?_;refine p_e ?_;refine p_e ?_;simp only[pv];refine ZJ (by rfl) 39 rfl _ Zv ?_;intro g7 z1009 n0 r7 k;simp only[pv];have d4x7:=l_l r4.lt n0;have d5x7:=l_l r5.lt n0;have d6x7:=l_l r6.lt n0;have dUx7:=l_l rU.lt n0;have dVx7:=l_l rV.lt n0;have b7:=Nat.le_trans sb.size n0;clear n0;replace r4:=k.ro r4;replace r5:=k.ro r5;replace r6:=k.ro r6;replace rU:=k.ro rU;replace rV:=k.ro rV;replace sb:=kk sb k;clear k;refine p_p r7 S ?_;clear r7;intro z1010 r7 k;simp only[Act.put];replace r4:=k.ro r4;replace r5:=k.ro r5;replace r6:=k.ro r6;replace rU:=k.ro rU;replace rV:=k.ro rV;replace sb:=kk sb k;clear k;refine p_a (Za ?_);simp only[pv];iterate 3 go_step
 refine rp ?_;refine p_l r7.r ?_;simp only[pv];refine p_p r6 S ?_;clear r6;intro z2001 r6 k;simp only[Act.put];replace r7:=k.ro r7;replace sb:=kk sb k;clear k;refine Za ?_;go_wp2;exact ZX rfl _ rfl r6 4 _ underlying39 (by exact Ze) rfl ⟨rfl,sb⟩
theorem J1 (v:Option Addr)(E GG S:Nat)(w:World)(hg: ∀w',Below w.heap.size w w'->Calls prog 256 #[.pointer v] w' (Rt (.agg (Zc GG)) w'))
  (hex: ∀w',Below w.heap.size w w'->Calls prog 255 #[.pointer v,.agg (Zc GG),.agg (Zc E)] w' (Rt (.agg (Zc S)) w')):
  Calls prog 232 #[.pointer v,.agg (Zc E)] w fun e w'=>e= .returned (.agg (Zc S))/\Below w.heap.size w w':=by
 go_enter func232,ntmps232
 iterate 2 go_step
 refine rp ?_;refine ZD (by rfl) 39 _ rfl (_) rfl ?_;intro g3 z0 n0 r3 k;simp only[pv];have b3:w.heap.size<=g3:=n0;clear n0;have sb:=k_b k;clear k;refine ZJ (by rfl) 39 rfl _ Zv ?_;intro g4 z1 n0 r4 k;simp only[pv];have d3x4:=l_l r3.lt n0;have b4:=Nat.le_trans sb.size n0;clear n0;replace r3:=k.ro r3;replace sb:=kk sb k;clear k;refine Za ?_;iterate 3 go_step
 apply Zo (by kernel_rfl) [(g4,39,Zc 0)] [_,_,_,_,_,_] ⟨r4,trivial⟩ (by simp<;>omega)
 ·intro p;refine m_m ?_;refine m_m ?_;simp only[pv];refine m_k 256 func256 #[.pointer v] (fun w' hk=>hg w' (sb.trans (hk.below w.heap.size sb.size (by simp<;>omega)))) ?_;simp only[pv];refine m_l r3 ?_;simp only[pv];refine m_k 255 func255 #[.pointer v,.agg (Zc GG),.agg (Zc E)] (fun w' hk=>hex w' (sb.trans (hk.below w.heap.size sb.size (by simp<;>omega)))) ?_;simp only[pv];refine m_p 0 S ?_;simp only[Act.put];refine Zi ?_;intro w2 hkw hrw hnew hdis;have zr4:Row w2 (g4) (Zc S) 39:=hrw 0 (39,Zc S) rfl;replace sb:=kk sb hkw;clear hkw hrw hnew hdis r4;have r4:=zr4;clear zr4;go_wp2;exact ZX rfl _ rfl r4 4 _ underlying39 (by exact Ze) rfl ⟨rfl,sb⟩
 ·kernel_rfl
theorem FL (A E g gr gf P Q G:Nat)(w:World)(hA:A<2^256)(hE:E<2^256)(q:RgQ P)(h:GrpAt w g gr gf P Q G):
  Calls prog 255 #[.pointer (some ⟨g,0,none⟩),.agg (Zc A),.agg (Zc E)] w (Rt (.agg (Zc (A^E%P))) w):=by
 refine M6 _ A E _ 0 w fun w' hb x y ra rb=>Rn _ _ _ _ 1 1 1 1 _ 0 w' (fun w2 h2=>Qk _ _ _ _ _ _ w2 ((h.below hb).below h2).kn) fun w2 h2=>?_
 have:=Mg 1 P (fun _=>A) (fun _=>E) (some ⟨x,0,none⟩) (some ⟨y,0,none⟩) 1 1 x 0 y 0 (Zc A) (Zc E) 39 39 gr w2 ⟨by decide,q.m,q.odd,q.two,V0 (ra.belowAll h2) hA,V0 (rb.belowAll h2) hE⟩ ((h.below hb).below h2).ring;rw[show prd (fun _=>A^E) 1=A^E from Nat.one_mul _]at this;exact this
theorem DO (E g gr gf P Q G:Nat)(w:World)(hE:E<2^256)(hG:G<2^256)(q:RgQ P)(h:GrpAt w g gr gf P Q G):
  Calls prog 232 #[.pointer (some ⟨g,0,none⟩),.agg (Zc E)] w (Rt (.agg (Zc (G^E%P))) w):=
 J1 _ E G _ w (fun w' hb=>JD _ _ _ _ _ _ w' (h.below hb).kn) fun w' hb=>FL G E g gr gf P Q G w' hG hE q (h.below hb)
def AQ (P Q A:Nat):Bool:=decide (A<P)&&decide (A^Q%P=1)
def smC (P Q G:Int):Array Value:=#[.int .i64 P,.int .i64 Q,.int .i64 G]
theorem DP (P Q G:Int):(smC P Q G).all (·.oneCell')=true:=by simp[smC,Value.oneCell']
theorem M7:(prog.info? 61).map (fun i=>(i.zero,i.size))=some (some (.agg (smC 0 0 0)),3):=by kernel_rfl
theorem FM (w:World):(zeroValue 61).run prog w= .ok (.agg (smC 0 0 0)) w:=(zero_of_info M7).1 w
theorem M8:(prog.info? 61).map (·.size)=some 3:=(zero_of_info M7).2
theorem J2 (P Q G:Int):prog.built 61 [(0,.int .i64 P),(1,.int .i64 Q),(2,.int .i64 G)]=some (smC P Q G):=by
 unfold smC
 kernel_rfl
theorem M9 (ab:Option Addr)(n c P Q G:Nat)(w:World)
  (hrp: ∀w',Below w.heap.size w w'->Calls prog 65 #[.agg (paC ab n c G)] w' (Rt (.agg (Zc P)) w'))
  (hrq: ∀w',Below w.heap.size w w'->Calls prog 66 #[.agg (paC ab n c G)] w' (Rt (.agg (Zc Q)) w'))
  (hlp: ∀w',Calls prog 64 #[.agg (Zc P)] w' (Rt (.tuple #[.int .i64 (P:Nat),.bool true]) w'))(hlq: ∀w',Calls prog 64 #[.agg (Zc Q)] w' (Rt (.tuple #[.int .i64 (Q:Nat),.bool true]) w'))(hlg: ∀w',Calls prog 64 #[.agg (Zc G)] w' (Rt (.tuple #[.int .i64 (G:Nat),.bool true]) w')):
  Calls prog 25 #[.agg (paC ab n c G)] w fun e w'=>e= .returned (.agg (smC P Q G))/\Below w.heap.size w w':=by
 go_enter func25,ntmps25
 iterate 2 go_step
 refine rp ?_;refine ZD (by rfl) 41 _ rfl (_) rfl ?_;intro g1 z0 n0 r1 k;simp only[pv];have b1:w.heap.size<=g1:=n0;clear n0;have sb:=k_b k;clear k;refine ZJ (by rfl) 61 rfl _ FM ?_;intro g2 z1 n0 r2 k;simp only[pv];have d1x2:=l_l r1.lt n0;have b2:=Nat.le_trans sb.size n0;clear n0;replace r1:=k.ro r1;replace sb:=kk sb k;clear k;refine Za ?_;iterate 3 go_step
 refine rp ?_;refine Zf (by rfl) 41 _ rfl _ 0 rfl r1.r _ (Zu _) _ underlying41 rfl Y3 ?_;simp only[pv];refine p_c 65 func65 #[.agg (paC ab n c G)] (hrp _ sb) ?_;intro z1001 k;simp only[pv];replace r1:=k.ro r1;replace r2:=k.ro r2;replace sb:=kk sb k;clear k;refine p_c 64 func64 #[.agg (Zc P)] (hlp _) ?_;intro z1002 k;simp only[pv];replace r1:=k.ro r1;replace r2:=k.ro r2;replace sb:=kk sb k;clear k;refine p_m ?_;refine p_e ?_;refine p_e ?_;refine p_a ?_;refine p_a (Za ?_);simp only[pv];iterate 3 go_step
 refine rp ?_;refine Zf (by rfl) 41 _ rfl _ 0 rfl r1.r _ (Zu _) _ underlying41 rfl Y3 ?_;simp only[pv];refine p_c 66 func66 #[.agg (paC ab n c G)] (hrq _ sb) ?_;intro z2001 k;simp only[pv];replace r1:=k.ro r1;replace r2:=k.ro r2;replace sb:=kk sb k;clear k;refine p_c 64 func64 #[.agg (Zc Q)] (hlq _) ?_;intro z2002 k;simp only[pv];replace r1:=k.ro r1;replace r2:=k.ro r2;replace sb:=kk sb k;clear k;refine p_m ?_;refine p_e ?_;refine p_e ?_;refine p_a ?_;refine p_a (Za ?_);simp only[pv];iterate 3 go_step
 refine rp ?_;refine p_v _ (Zb 41 _ 1 rfl g1 0 rfl _ underlying41 _ rfl 3 sizeOf39) ?_;simp only[pv];refine Zf (by rfl) 39 _ rfl _ (1) rfl r1.r (Zc G) (An _ _ _ _) _ underlying39 rfl Ze ?_;simp only[pv];refine p_c 64 func64 #[.agg (Zc G)] (hlg _) ?_;intro z3002 k;simp only[pv];replace r1:=k.ro r1;replace r2:=k.ro r2;replace sb:=kk sb k;clear k;refine p_m ?_;refine p_e ?_;refine p_e ?_;refine p_a ?_;refine p_a (Za ?_);simp only[pv];iterate 3 go_step
 refine rp ?_;refine p_m ?_;refine p_m ?_;refine p_m ?_;simp only[pv];refine p_v _ (Zm _ _ rfl [(0,.int .i64 P),(1,.int .i64 Q),(2,.int .i64 G)] rfl _ (J2 _ _ _)) ?_;simp only[pv];refine Z0 (by rfl) 61 _ _ rfl _ rfl r2 (smC P Q G) rfl (by exact M8) (by rfl) (DP _ _ _) ?_;clear r2;intro z4004 r2 k;simp only[Act.put];replace sb:=kk sb k;clear k;refine Za ?_;go_wp2;exact YP rfl _ rfl r2 _ underlying61 (by exact M8) rfl ⟨rfl,sb⟩
theorem Qt (A:Nat)(w:World)(h:A<9223372036854775808):
  Calls prog 64 #[.agg (Zc A)] w (Rt (.tuple #[.int .i64 (A:Nat),.bool true]) w):=by
 have:=KQ A w (by omega);rw[show Ny A=((A:Nat):Int)from if_pos h,show Nz A=true from decide_eq_true h]at this;exact this
theorem J3 (x:Nat)(N:Nat->Nat)(A:Nat->Int)(G:Nat)(w:World)(r:Row w x (RK 3 N A) 148)(hlt: ∀i,i<3->N i<2^256)(hP:N (3-1)<9223372036854775808)(hQ:N (3-2)<9223372036854775808)(hG:G<9223372036854775808):
  Calls prog 25 #[.agg (paC (some ⟨x,0,none⟩) 3 3 G)] w (Rt (.agg (smC (N (3-1):Nat) (N (3-2):Nat) (G:Nat))) w):=
 M9 _ 3 3 _ _ G w (fun w' hb=>Di 3 3 (some ⟨x,0,none⟩) G _ _ x 0 _ _ w' (by decide) (by decide) (Vp (r.belowAll hb) hlt)) (fun w' hb=>Dj 3 3 (some ⟨x,0,none⟩) G _ _ x 0 _ _ w' (by decide) (by decide) (Vp (r.belowAll hb) hlt))
  (fun w'=>Qt _ w' hP) (fun w'=>Qt _ w' hQ) fun w'=>Qt _ w' hG
theorem DQ (b:Bool):lN (pk2 b otL leL) (3-1)<4611686018427387904/\pk2 b otG leG<4611686018427387904:=by
 cases b<;>decide
def le5:Nat:=499752131551553962
end Go.Proofs.YtcdahmommonnfaaGreatDoor
