import Derived.Test.YtnagnkhbamhfmaaGreatDoorPyFun
import Derived.OwnWalk
set_option maxRecDepth 100000
set_option maxHeartbeats 8000000
namespace Go.Proofs.YtnagnkhbamhfmaaGreatDoor
set_option linter.all false
open Go.RowKit
open Go.Proofs.Tryz
section
variable {Q:Nat}[NeZero Q]
def PlA (w:World)(v:Value)(L:List (Fin Q)):Prop:= ∃ab n c F gb ob bcs tb,v= .slice ab n c/\n<=1000/\NatsAt w ab n F gb ob bcs tb/\fl n F=L
def NH (w:World)(v:Value)(L:List (Fin Q)):Prop:= ∃ab c gb ob bcs tb,v= .slice ab L.length c/\NatsAt w ab L.length (fun i=>(pco L i).val) gb ob bcs tb
theorem PlA.below {w w':World}{v:Value}{L:List (Fin Q)}(h:PlA w v L)(hb:Below w.heap.size w w'):PlA w' v L:=by
 obtain⟨ab,n,c,F,gb,ob,bcs,tb,h1,h2,h3,h4⟩:=h;exact⟨ab,n,c,F,gb,ob,bcs,tb,h1,h2,h3.below hb,h4⟩
theorem NH.below {w w':World}{v:Value}{L:List (Fin Q)}(h:NH w v L)(hb:Below w.heap.size w w'):NH w' v L:=by
 obtain⟨ab,c,gb,ob,bcs,tb,h1,h3⟩:=h;exact⟨ab,c,gb,ob,bcs,tb,h1,h3.below hb⟩
theorem NH.arg {w:World}{v:Value}{L:List (Fin Q)}(h:NH w v L)(hl:L.length<=1000):PlA w v L:=by
 obtain⟨ab,c,gb,ob,bcs,tb,h1,h3⟩:=h;exact⟨ab,_,c,_,gb,ob,bcs,tb,h1,hl,h3,zA L⟩
theorem NatsAt.pl {w:World}{ab:Option Addr}{n c:Nat}{F:Nat->Nat}{gb ob:Nat}{bcs:Array Value}{tb:TypeId}(h:NatsAt w ab n F gb ob bcs tb)(hn:n<=1000):PlA w (.slice ab n c) (fl n F:List (Fin Q)):=
 ⟨ab,n,c,F,gb,ob,bcs,tb,rfl,hn,h,rfl⟩
theorem Fb (w:World):NH w (.slice none 0 0) ([]:List (Fin Q)):=⟨none,0,0,0,#[],0,rfl,⟨.inl rfl,fun i hi=>by simp at hi⟩⟩
theorem Br {w:World}{g n:Nat}{F:Nat->Nat}{L:List (Fin Q)}(r:Row w g (nsC n F) 57)(hQ:Q<2^256)(hF: ∀i,i<n->F i<Q)(hL: ∀i,pco (fl n F:List (Fin Q)) i=pco L i):NH w (.slice (some ⟨g,0,none⟩) (yTn F n) n) (Yk L):=by
 obtain⟨h1,h2⟩:=GW n F L hF hL;have h:=(YA r fun i hi=>E_ (hF i hi) hQ).take (T0 F n);rw[h1]at h h2;rw[h1];exact⟨_,_,_,_,_,_,rfl,h.congr fun i hi=>h2 i hi⟩
section
variable {g gr gf P G:Nat}{w:World}
theorem wE (va vb:Value)(La Lb:List (Fin Q))(q:FdQ Q)(h:GrpAt w g gr gf P Q G)(ha:PlA w va La)(hb:PlA w vb Lb):
  Calls prog 139 #[.pointer (some ⟨g,0,none⟩),va,vb] w fun e w'=> ∃v,e= .returned v/\NH w' v (Um La Lb)/\Below w.heap.size w w':=by
 obtain⟨ab,n,c,F,gb,ob,bcs,tb,rfl,hn,hna,rfl⟩:=ha;obtain⟨ae,m,ce,E,ge,oe,ecs,te,rfl,hm,hnb,rfl⟩:=hb;refine(Fa _ ab ae n c m ce F E (fO Q) gb ob ge oe bcs ecs tb te w hn hm hna hnb (h.fa q)).mono ?_;rintro e w' ⟨gx,rfl,_,r,hb⟩
 have ea:(fl (yTn (yTm (fO Q) F) n) (yTm (fO Q) F):List (Fin Q))=Yk (fl n F):=by
  have h1:=GW n (yTm (fO Q) F) (fl n F:List (Fin Q)) (fun i _=>JB F i) (fun i=>by rw[JA]);exact EY _ _ _ h1.1 h1.2
 have eb:(fl (yTn (yTm (fO Q) E) m) (yTm (fO Q) E):List (Fin Q))=Yk (fl m E):=by
  have h1:=GW m (yTm (fO Q) E) (fl m E:List (Fin Q)) (fun i _=>JB E i) (fun i=>by rw[JA]);exact EY _ _ _ h1.1 h1.2
 have hp:=Br (L:=Um (fl n F) (fl m E)) r q.m (fun i _=>zF _ _ _ _ _) fun i=>by rw[zH,ea,eb,M0]
 rw[TU]at hp;exact⟨_,rfl,hp,hb⟩
theorem Bs (va:Value)(La:List (Fin Q))(x:Nat)(hx:x<2^256)(q:FdQ Q)(h:GrpAt w g gr gf P Q G)(ha:PlA w va La):
  Calls prog 65 #[.pointer (some ⟨g,0,none⟩),va,.agg (Zc x)] w (Rt (.agg (Zc (pev (fi x) La).val)) w):=by
 obtain⟨ab,n,c,F,gb,ob,bcs,tb,rfl,hn,hna,rfl⟩:=ha;have:=JN (some ⟨g,0,none⟩) ab n c x F (fO Q) gb ob bcs tb w (by omega) hx hna (h.fa q);rw[zJ]at this;exact this
end
end
theorem JO {P:Program}{o:Oper}{ρ:Operand->Value}(t:TypeId)(x lo hi:Operand)(ho:o.op= .slice t x (some lo) (some hi) none)(hu:P.underlying t=some (.slice (P.elem t)))(z:Nat)(hz: ∀w,(sizeOf (P.elem t)).run P w= .ok z w)(g off n c l h:Nat)(hx:ρ x= .slice (some ⟨g,off,none⟩) n c)(hl:ρ lo= .int .i64 l)(hh:ρ hi= .int .i64 h)(h1:l<=h)(h2:h<=c)(h3:l<c)(w:World):
  (execOp ρ o).run P w= .ok (.value (.slice (some ⟨g,off+l*z,none⟩) (h-l) (c-l))) w:=by
 have hr:(Instr.sliceAt t (.slice (some ⟨g,off,none⟩) n c) (some (.int .i64 l)) (some (.int .i64 h)) none).run P w= .ok (.slice (some ⟨g,off+l*z,none⟩) (h-l) (c-l)) w:=by
  rw[run_sliceAt_slice w t _ _ _ _ hu,run_slice_lh w t _ n c hu .i64 .i64 l h (by omega) (by omega) (by omega),hz,k_,q_,q_];unfold sliced;rw[i_ (by omega)];simp[Addr.add]
 unfold execOp;simp only[ho,hx,hl,hh,aS0,dO0,p_,hr,k_];rfl
def yTk (q:Nat)(lo:Nat)(B:Nat->Nat)(c:Nat)(R:Nat->Nat)(k i:Nat):Nat:=if lo<=i/\i<lo+k then sbN (R i) (B (i-lo)*c%q) q else R i
section
variable {Q:Nat}[NeZero Q]
end
theorem Fc (v f:Option Addr)(P Q G:Nat)(r:Option Addr)(w:World)(h:Oi w v P Q G r f):
  Calls prog 137 #[.pointer v] w fun e w'=>e= .returned (.bool (!f.isNone))/\Below w.heap.size w w':=by
 have hf:=fun w' (hb:Below w.heap.size w w')=>YF v P Q G r f w' (h.below hb)
 go_enter func137,ntmps137
 have sb:=YG w;iterate 2 go_step
 refine rp ?_;refine p_v (.bool false) (fun _=>rfl) (Zb ?_);simp only[pv];iterate 3 go_step
 refine rp ?_;refine p_m ?_;simp only[pv];refine p_c 98 func98 #[.pointer v] (hf _ sb) ?_;intro z1001 k;simp only[pv];replace sb:=kk sb k;clear k;refine p_v _ (YK _ _ _ _ rfl f rfl rfl Vh) ?_;refine p_a (Zb ?_);simp only[pv];go_wp2;go_ret;exact⟨rfl,sb⟩
theorem Sa:prog.built 57 [(0,.int .u64 1)]=some (Zc 1):=by kernel_rfl
def ivF {Q:Nat}[NeZero Q](x:Fin Q):Fin Q:=fi (Ru x.val Q)
theorem E4 {Q:Nat}[NeZero Q](q:FdQ Q)(a:Fin Q)(h:a≠0):a*ivF a=1:=by
 have h1:a.val%Q≠0:=by
  rw[g_ a.isLt];exact fun e=>h ((zB a).1 e)
 have h2:=xt q.pr h1;have h3:(fi (a.val*Ru a.val Q):Fin Q)=fi 1:=(GV _ _).2 (by rw[h2,g_ (by have:=q.pr.1;omega)]);rw[Un,On]at h3;exact h3
theorem JP {Q:Nat}[NeZero Q]{w:World}{g A:Nat}(r:Row w g (Zc A) 57)(hA:A<2^256):PlA w (.slice (some ⟨g,0,none⟩) 1 1) [(fi A:Fin Q)]:=by
 exact(Y7 r hA).pl (by decide)
theorem Bt {Q:Nat}[NeZero Q]{w:World}{g A B:Nat}(r:Row w g (Zc A++Zc B) 57)(hA:A<2^256)(hB:B<2^256):PlA w (.slice (some ⟨g,0,none⟩) 2 2) [(fi A:Fin Q),fi B]:=by
 exact(Nq r hA hB).pl (by decide)
def esC (k n:Nat)(C:Nat->Array Value):Array Value:=Array.ofFn (n:=n*k) fun i=>((C (i/k))[i.val%k]?).getD undef
theorem YM (k n:Nat)(C:Nat->Array Value):(esC k n C).size=n*k:=by simp[esC]
theorem UK {k n:Nat}{C:Nat->Array Value}(hC: ∀i,(C i).size=k)(i j:Nat)(hi:i<n)(hj:j<k):(esC k n C)[i*k+j]?=(C i)[j]?:=by
 have h1:i*k+j<n*k:=l_ (Nat.add_lt_add_left hj _) (by rw[<-fE0];exact z_ k hi);have h2:(i*k+j)/k=i:=by rw[t_,cT0 (by omega),F_ hj,cC0]
 have h3:(i*k+j)%k=j:=by rw[t_,Nat.mul_add_mod,g_ hj]
 have h4:j<(C i).size:=by rw[hC];exact hj
 simp[esC,h1,h2,h3,h4]
theorem Ur {k n:Nat}{C:Nat->Array Value}(hC: ∀i,(C i).size=k)(i:Nat)(hi:i<n)(off:Nat)(ho:off=i*k): ∀j v,(C i).toList[j]?=some v->(esC k n C)[off+j]?=some v:=by
 intro j v hv;subst ho;rw[o_]at hv
 have hj:j<k:=by
  have:=(O_.1 hv).1;rw[hC]at this;exact this
 rw[UK hC i j hi hj,hv]
theorem RX {k n i:Nat}(h:i<n*k):i/k<n:=aE0 (by rw[t_];exact h)
theorem Sb {k n:Nat}{C:Nat->Array Value}(hC: ∀i,(C i).size=k)(i:Nat)(h:i<n*k):(esC k n C)[i]?=(C (i/k))[i%k]?:=by
 have hk:0<k:=by
  rcases aK0 k with e|e
  ·rw[e,bE0]at h;omega
  ·exact e
 have e:i/k*k+i%k=i:=by rw[t_];exact I_ i k
 have:=UK hC (i/k) (i%k) (RX h) (m_ _ hk);rw[e]at this;exact this
theorem Vl {k n:Nat}{C D:Nat->Array Value}(h: ∀i,i<n->C i=D i):esC k n C=esC k n D:=by
 apply C_;intro i;by_cases hi:i<n*k
 ·have:=h (i/k) (RX hi);simp[esC,hi,this]
 ·rw[h_ (by rw[YM];omega),h_ (by rw[YM];omega)]
theorem Fd {k:Nat}{C:Nat->Array Value}(hC: ∀i,(C i).size=k)(n:Nat):(esC k n C).toList++(C n).toList=(esC k (n+1) C).toList:=by
 refine List.ext_getElem? fun j=>?_
 rw[gX0,A_,YM,o_,o_,o_];have hs:(n+1)*k=n*k+k:=fE0 n k;by_cases h:j<n*k
 ·rw[j_ h,Sb hC j h,Sb hC j (by omega)]
 ·rw[i_ h];by_cases h2:j<n*k+k
  ·obtain⟨d,rfl⟩: ∃d,j=n*k+d:=⟨j-n*k,by omega⟩
   rw[UK hC n d (by omega) (by omega),aN0]
  ·rw[h_ (by rw[hC];omega),h_ (by rw[YM];omega)]
theorem Bu {k n:Nat}{C D:Nat->Array Value}(hC: ∀i,(C i).size=k)(hD: ∀i,(D i).size=k)(i:Nat)(hi:i<n)(off:Nat)(ho:off=i*k)(hd: ∀j,j<n->j≠i->D j=C j):SG (esC k n C) off (D i).toList=esC k n D:=by
 subst ho
 have h1:i*k+k<=n*k:=by rw[<-fE0];exact z_ k hi
 apply C_;intro x;rw[Ue _ _ _ _ (by rw[YM,A_,hD];exact h1),A_,hD];by_cases hx:x<n*k
 ·by_cases e:i*k<=x/\x<i*k+k
  ·rw[j_ e];obtain⟨d,rfl⟩: ∃d,x=i*k+d:=⟨x-i*k,by omega⟩
   rw[aN0,UK hD i d hi (by omega),o_]
  ·rw[i_ e,Sb hC x hx,Sb hD x hx,hd (x/k) (RX hx) (fun h=>e ?_)]
   have hk:0<k:=by
    rcases aK0 k with e|e
    ·rw[e,bE0]at hx;omega
    ·exact e
   have h2:=I_ x k;have h3:=m_ x hk;rw[h,t_]at h2;omega
 ·rw[i_ (by omega),h_ (by rw[YM];omega),h_ (by rw[YM];omega)]
theorem NI {k n:Nat}(z:Array Value)(hz:z.size=k):madeCells z (n*k)=esC k n (fun _=>z):=by
 apply C_;intro i;by_cases hi:i<n*k
 ·have hk:0<k:=by
   rcases aK0 k with e|e
   ·rw[e,bE0]at hi;omega
   ·exact e
  rw[Sb (fun _=>hz) i hi];unfold madeCells
  have:i%k<z.size:=by rw[hz];exact m_ _ hk
  simp[hi,hz];rw[getElem!_pos z (i%k) this,S_ this]
 ·rw[h_ (by rw[fM0];omega),h_ (by rw[YM];omega)]
structure ElsAt (k:Nat)(w:World)(ab:Option Addr)(n:Nat)(C:Nat->Array Value)(gb ob:Nat)(bcs:Array Value)(tb:TypeId):Prop where
 at':n=0∨(ab=some ⟨gb,ob,none⟩/\WV w gb bcs tb/\ ∀i,i<n-> ∀j v,(C i).toList[j]?=some v->bcs[ob+i*k+j]?=some v)
section
variable {k:Nat}{w w2:World}{ab:Option Addr}{n:Nat}{C D:Nat->Array Value}{gb ob:Nat}{bcs:Array Value}{tb:TypeId}
theorem ElsAt.below (h:ElsAt k w ab n C gb ob bcs tb)(hb:Below w.heap.size w w2):ElsAt k w2 ab n C gb ob bcs tb:=
 ⟨h.at'.imp id fun⟨h1,h2,h3⟩=>⟨h1,h2.belowAll hb,h3⟩⟩
theorem ElsAt.belowAll (h:ElsAt k w ab n C gb ob bcs tb)(hb:Below w.heap.size w w2):ElsAt k w2 ab n C gb ob bcs tb:=h.below hb
theorem ElsAt.take (h:ElsAt k w ab n C gb ob bcs tb){m:Nat}(hm:m<=n):ElsAt k w ab m C gb ob bcs tb:=by
 refine⟨?_⟩;rcases h.at' with h0|⟨h1,h2,h3⟩
 ·exact .inl (by omega)
 ·exact .inr ⟨h1,h2,fun i hi=>h3 i (by omega)⟩
theorem ElsAt.congr (h:ElsAt k w ab n C gb ob bcs tb)(he: ∀i,i<n->C i=D i):ElsAt k w ab n D gb ob bcs tb:=
 ⟨h.at'.imp id fun⟨h1,h2,h3⟩=>⟨h1,h2,fun i hi=>by rw[<-he i hi];exact h3 i hi⟩⟩
theorem ElsAt.drop (h:ElsAt k w (some ⟨gb,ob,none⟩) n C gb ob bcs tb){m:Nat}(hm:m<=n):ElsAt k w (some ⟨gb,ob+m*k,none⟩) (n-m) (fun i=>C (m+i)) gb (ob+m*k) bcs tb:=by
 refine⟨?_⟩;rcases h.at' with h0|⟨h1,h2,h3⟩
 ·exact .inl (by omega)
 ·refine .inr ⟨rfl,h2,fun i hi j v hv=>?_⟩;have:=h3 (m+i) (by omega) j v hv;rw[aV0]at this;rw[show ob+m*k+i*k+j=ob+(m*k+i*k)+j by omega];exact this
theorem JQ {g:Nat}{t:TypeId}(hC: ∀i,(C i).size=k)(h:Row w g (esC k n C) t):ElsAt k w (some ⟨g,0,none⟩) n C g 0 (esC k n C) t:=
 ⟨.inr ⟨rfl,h.r,fun i hi=>Ur hC i hi _ (by omega)⟩⟩
def Te (k:Nat)(e:TypeId)(w:World)(base:Nat)(v:Value)(n:Nat)(C:Nat->Array Value):Prop:=w.ownsRow base e k v n (esC k n C).toList
theorem RY (e:TypeId)(w:World)(base:Nat)(C:Nat->Array Value):Te k e w base (.slice none 0 0) 0 C:=by
 have h:(esC k 0 C).toList=[]:=by
  apply bK0;rw[A_,YM,cD0]
 unfold Te;rw[h];exact gM0 w base _ _
variable {e:TypeId}{S:List Nat}{bs:Nat}{v:Value}
theorem Te.on (h:Te k e w bs v n C)(hk:Kept S w w2)(hS: ∀b,v.ownBlock=some b->b∉S):Te k e w2 bs v n C:=XD h hk hS
theorem Te.new (h:Te k e w bs v n C){g:Nat}(hg:w.heap.size<=g):v.ownBlock≠some g:=Ov h hg
theorem Te.low (h:Te k e w bs v n C){g:Nat}(hg:g<bs):v.ownBlock≠some g:=VY h hg
theorem Te.base (h:Te k e w bs v n C): ∀g∈v.ownBlock.toList,bs<=g:=Vx h
theorem RZ (hC: ∀i,(C i).size=k)(h:Te k e w bs v n C): ∃ab c gb cur,v= .slice ab n c/\n<=c/\ElsAt k w ab n C gb 0 cur e:=by
 rcases h.2 with ⟨rfl,rfl⟩|⟨g,cap,cur,rfl,_,hg,hnc,_,hcs,htk⟩
 ·exact⟨none,0,0,#[],rfl,c_ _,⟨.inl rfl⟩⟩
 ·refine⟨_,cap,g,cur,rfl,hnc,⟨.inr ⟨rfl,Row.r hg,fun i hi j v hv=>?_⟩⟩⟩
  have hj:j<k:=by
   rw[o_]at hv;have:=(O_.1 hv).1;rw[hC]at this;exact this
  have hl:i*k+j<n*k:=l_ (Nat.add_lt_add_left hj _) (by rw[<-fE0];exact z_ k hi);refine T7 htk (0+i*k+j) v (by omega) ?_;have:=Ur hC i hi (i*k) rfl j v hv;rw[B_];exact this
end
section
variable {P:Program}{ops:Array Oper}{Q:Exit->Act->World->Prop}{rest:List Oper}{o:Oper}{a:Act}{w:World}
theorem JR (hw:Region.wanted o (yielded ops a.tmps)=true)(s x:Operand)(t:TypeId)(ho:o.op= .call {callee:=.builtin .append,args:=#[s,x],argTypes:=#[t,t]})
  (base:Nat)(e:TypeId)(i:TypeInfo)(z:Value)(k bytes:Nat)(ht:P.underlying t=some (.slice e))(hi:P.info? e=some i)(hz:i.zero=some z)(hsize:i.size=k)(hby:i.bytes=bytes)(hzs:z.cells.size=k)(hk:0<k)(hby2:bytes<=1000)
  (v:Value)(n:Nat)(C:Nat->Array Value)(hC: ∀i,(C i).size=k)(hs:a.eval s=v)(hown:Te k e w base v n C)(gx c:Nat)(hx:a.eval x= .slice (some ⟨gx,0,none⟩) 1 c){tx:TypeId}(rx:Row w gx (C n) tx)(h1:(C n).all (·.oneCell')=true)
  (hn:n<=1000000)(hbase:base<=w.heap.size)
  (h: ∀v' w',Te k e w' base v' (n+1) C->Kept v.ownBlock.toList w w'->(v'.ownBlock=v.ownBlock∨v'.ownBlock=some w.heap.size)->PW P ops Q rest (a.put o.dst v') w'):PW P ops Q (o::rest) a w:=by
 refine JJ hw s x t ho base e i z k bytes ht hi hz hsize hby hzs hk v n _ hs hown gx c hx rx (hC n) h1 (by unfold maxLen;omega) ?_ hbase fun v' w' h1 h2 h3=>h v' w' ?_ h2 h3
 ·exact f_ (L_ (show n+1<=1000001 by omega) hby2) (by decide)
 ·rw[Fd hC]at h1;exact h1
end
def shC (i:Int)(y:Nat):Array Value:=#[.int .i64 i]++Zc y
def snB (Z:Nat->Int):Nat->Int->Bool
 |0,_=>false
 |k+1,v=>snB Z k v||decide (Z k=v)
def apB (least:Int)(Z:Nat->Int):Nat->Bool
 |0=>true
 |k+1=>apB least Z k&&(decide (least<=Z k)&&(decide (Z k<=7)&& !(snB Z k (Z k))))
theorem Oy (Z:Nat->Int)(v:Int): ∀k,snB Z k v=true↔ ∃j,j<k/\Z j=v
 |0=>⟨fun h=>(by cases h),fun⟨j,hj,_⟩=>absurd hj (by omega)⟩
 |k+1=>by
  show(snB Z k v||decide (Z k=v))=true↔_
  rw[bQ0,Oy Z v k,X_];constructor
  ·rintro(⟨j,hj,e⟩|e)
   ·exact⟨j,by omega,e⟩
   ·exact⟨k,by omega,e⟩
  ·rintro⟨j,hj,e⟩;by_cases h:j=k
   ·exact .inr (h▸e)
   ·exact .inl ⟨j,by omega,e⟩
theorem NJ (least:Int)(Z:Nat->Int)(k:Nat):apB least Z (k+1)=true↔apB least Z k=true/\least<=Z k/\Z k<=7/\snB Z k (Z k)=false:=by
 show(apB least Z k&&(decide (least<=Z k)&&(decide (Z k<=7)&& !(snB Z k (Z k)))))=true↔_
 simp
theorem NK {least:Int}{Z:Nat->Int}{k:Nat}(h:apB least Z k=false): ∀n,k<=n->apB least Z n=false
 |0,hn=>by
  obtain rfl:k=0:=by omega
  exact h
 |n+1,hn=>by
  by_cases e:k=n+1
  ·rw[<-e];exact h
  ·show(apB least Z n&&_)=false
   rw[NK h n (by omega),bI0]
theorem JS (least:Int)(Z:Nat->Int): ∀n,apB least Z n=true↔(∀k,k<n->least<=Z k/\Z k<=7)/\ ∀j k,j<k->k<n->Z j≠Z k
 |0=>⟨fun _=>⟨fun k hk=>absurd hk (by omega),fun j k _ hk=>absurd hk (by omega)⟩,fun _=>rfl⟩
 |n+1=>by
  rw[NJ,JS least Z n];constructor
  ·rintro⟨⟨h1,h2⟩,h3,h4,h5⟩;refine⟨fun k hk=>?_,fun j k hj hk=>?_⟩
   ·by_cases e:k=n
    ·subst e;exact⟨h3,h4⟩
    ·exact h1 k (by omega)
   ·by_cases e:k=n
    ·subst e;intro e2;rw[(Oy Z (Z k) k).2 ⟨j,hj,e2⟩]at h5;cases h5
    ·exact h2 j k hj (by omega)
  ·rintro⟨h1,h2⟩;refine⟨⟨fun k hk=>h1 k (by omega),fun j k hj hk=>h2 j k hj (by omega)⟩,(h1 n (by omega)).1,(h1 n (by omega)).2,?_⟩
   cases h:snB Z n (Z n)with
   |false=>rfl
   |true=>
    obtain⟨j,hj,e⟩:=(Oy Z (Z n) n).1 h;exact absurd e (h2 j n hj (by omega))
def cnB (f:Nat->Bool):Nat->Nat
 |0=>0
 |m+1=>cnB f m+if f m then 1 else 0
def vsC (n:Nat)(S:Nat->Value):Array Value:=Array.ofFn (n:=n) fun i=>S i
theorem Xb (n:Nat)(S:Nat->Value):(vsC n S).size=n:=by simp[vsC]
theorem XA {n:Nat}(S:Nat->Value){i:Nat}(h:i<n):(vsC n S)[i]?=some (S i):=by simp[vsC,h]
theorem YN {n:Nat}{S T:Nat->Value}(h: ∀i,i<n->S i=T i):vsC n S=vsC n T:=by
 apply C_;intro i;by_cases hi:i<n
 ·rw[XA S hi,XA T hi,h i hi]
 ·rw[h_ (by rw[Xb];omega),h_ (by rw[Xb];omega)]
theorem VZ {n:Nat}{S T:Nat->Value}{i:Nat}{v:Value}(hi:i<n)(hv:T i=v)(h: ∀j,j<n->j≠i->T j=S j):(vsC n S).setIfInBounds i v=vsC n T:=by
 apply C_;intro j;rw[U_];by_cases hj:j<n
 ·rw[XA S hj,XA T hj];by_cases e:i=j
  ·subst e;rw[j_ rfl,j_ (by rw[Xb];exact hj),hv]
  ·rw[i_ e,h j hj (fun x=>e x.symm)]
 ·rw[h_ (show(vsC n T).size<=j by rw[Xb];omega)];by_cases e:i=j
  ·omega
  ·rw[i_ e,h_ (by rw[Xb];omega)]
theorem Sc (n:Nat)(v:Value)(hv:v.cells=#[v]):madeCells v.cells (n*1)=vsC n (fun _=>v):=by
 apply C_;intro i;by_cases hi:i<n
 ·rw[XA _ hi,hv];unfold madeCells;simp[hi,aP0]
 ·rw[h_ (by rw[fM0];omega),h_ (by rw[Xb];omega)]
structure FamAt (w:World)(base n:Nat)(R:Nat->Nat)(V:Nat->Nat->Nat)(m:Nat):Prop where
 row: ∀j,j<m->Row w (R j) (nsC n (V j)) 57
 dis: ∀i j,i<m->j<m->R i=R j->i=j
 low: ∀j,j<m->base<=R j
section
variable {w w2:World}{base n m:Nat}{R:Nat->Nat}{V V':Nat->Nat->Nat}
theorem FamAt.below (h:FamAt w base n R V m)(hb:Below w.heap.size w w2):FamAt w2 base n R V m:=
 ⟨fun j hj=>(h.row j hj).belowAll hb,h.dis,h.low⟩
theorem FamAt.on (h:FamAt w base n R V m){S:List Nat}(k:Kept S w w2)(hS: ∀j,j<m->R j∉S):FamAt w2 base n R V m:=
 ⟨fun j hj=>k.row (h.row j hj) (hS j hj),h.dis,h.low⟩
theorem FamAt.congr (h:FamAt w base n R V m)(he: ∀j,j<m-> ∀k,k<n->V j k=V' j k):FamAt w base n R V' m:=
 ⟨fun j hj=>by rw[<-Yw n (V j) (V' j) (he j hj)];exact h.row j hj,h.dis,h.low⟩
theorem FamAt.lt (h:FamAt w base n R V m){j:Nat}(hj:j<m):R j<w.heap.size:=(h.row j hj).lt
theorem FamAt.put (h:FamAt w base n R V m){j:Nat}(hj:j<m)(k:Kept [R j] w w2)(r:Row w2 (R j) (nsC n (V' j)) 57)(he: ∀i,i<m->i≠j->V' i=V i):FamAt w2 base n R V' m:=by
 refine⟨fun i hi=>?_,h.dis,h.low⟩;by_cases e:i=j
 ·rw[e];exact r
 ·rw[he i hi e]
  exact k.row (h.row i hi) (by
   intro hm
   exact e (h.dis i j hi hj (by simpa using hm)))
def upR (R:Nat->Nat)(m g:Nat):Nat->Nat:=fun j=>if j=m then g else R j
theorem Xd (R:Nat->Nat)(m g:Nat):upR R m g m=g:=j_ rfl
theorem Y4 (R:Nat->Nat){m g j:Nat}(h:j<m):upR R m g j=R j:=i_ (by omega)
theorem FamAt.add (h:FamAt w base n R V m){g:Nat}(hg: ∀j,j<m->R j≠g)(hb:base<=g)(r:Row w g (nsC n (V m)) 57):FamAt w base n (upR R m g) V (m+1):=by
 refine⟨fun j hj=>?_,fun i j hi hj e=>?_,fun j hj=>?_⟩
 ·by_cases e:j=m
  ·subst e;rw[Xd];exact r
  ·rw[Y4 R (show j<m by omega)];exact h.row j (by omega)
 ·by_cases e1:i=m
  ·by_cases e2:j=m
   ·omega
   ·rw[e1,Xd,Y4 R (show j<m by omega)]at e;exact absurd e.symm (hg j (by omega))
  ·by_cases e2:j=m
   ·rw[e2,Xd,Y4 R (show i<m by omega)]at e;exact absurd e (hg i (by omega))
   ·rw[Y4 R (show i<m by omega),Y4 R (show j<m by omega)]at e;exact h.dis i j (by omega) (by omega) e
 ·by_cases e:j=m
  ·subst e;rw[Xd];exact hb
  ·rw[Y4 R (show j<m by omega)];exact h.low j (by omega)
theorem Sd (w:World)(base n:Nat)(R:Nat->Nat)(V:Nat->Nat->Nat):FamAt w base n R V 0:=
 ⟨fun j hj=>absurd hj (by omega),fun i j hi=>absurd hi (by omega),fun j hj=>absurd hj (by omega)⟩
end
theorem JT:(prog.info? 111).map (fun i=>(i.zero,i.size))=some (some (.agg (shC 0 0)),5):=by kernel_rfl
theorem Bv (w:World):(zeroValue 111).run prog w= .ok (.agg (shC 0 0)) w:=(Q_ JT).1 w
theorem JU:(prog.info? 111).map (·.size)=some 5:=(Q_ JT).2
theorem zQ (i:Int)(y:Nat):(shC i y).all (·.oneCell')=true:=by simp[shC,Zc,Value.oneCell']
theorem wX (i:Int)(y:Nat): ∀j v,(Zc y).toList[j]?=some v->(shC i y)[1+j]?=some v:=UX rfl rfl rfl rfl
theorem xy {bcs:Array Value}{off:Nat}{i:Int}{y:Nat}(h: ∀j v,(shC i y).toList[j]?=some v->bcs[off+j]?=some v): ∀j v,(Zc y).toList[j]?=some v->bcs[off+1+j]?=some v:=fun j v hv=>by
 rw[iJ0];refine h (1+j) v ?_;rw[o_];exact wX i y j v hv
theorem Fe (i:Int)(y:Nat):prog.built 111 [(0,.int .i64 i),(1,.agg (Zc y))]=some (shC i y):=by
 unfold shC Zc;generalize lm y 0=a;generalize lm y 1=b;generalize lm y 2=c;generalize lm y 3=d
 kernel_rfl
theorem Bw:(prog.info? 173).map (fun i=>(i.zero,i.size))=some (some (.agg (vsC 8 fun _=>.bool false)),8):=by kernel_rfl
theorem Bx (w:World):(zeroValue 173).run prog w= .ok (.agg (vsC 8 fun _=>.bool false)) w:=(Q_ Bw).1 w
theorem M2:(prog.info? 4).map (·.size)=some 1:=by kernel_rfl
end Go.Proofs.YtnagnkhbamhfmaaGreatDoor
