import Derived.Test.YtcdahmommonnfaaGreatDoorJ6
import Derived.WalkKit
import Derived.Laws.BitsAllLaws
import Derived.Laws.IdiomCopy
import Derived.Laws.MakeOwn
import Derived.Lib.UnsafeStr
import Derived.Laws.AppendOwn
import Derived.Laws.OwnMore
set_option maxRecDepth 100000
set_option maxHeartbeats 8000000
namespace Go.Proofs.YtcdahmommonnfaaGreatDoor
set_option linter.all false
open Go.Proofs.Tryz
section
variable {q:Nat}[NeZero q]
abbrev Mx (q:Nat):=Nat->Nat->Fin q
def Sol (A:Mx q)(m c:Nat)(x:Nat->Fin q):Prop:= ∀i,i<m->psm (fun k=>A i k*x k) c=A i c
def BA (A:Mx q)(a b:Nat):Mx q:=fun r=>if r=a then A b else if r=b then A a else A r
def mSub (A:Mx q)(r n:Nat)(t:Fin q):Mx q:=fun i k=>if i=r then A i k-t*A n k else A i k
def mScl (A:Mx q)(r:Nat)(t:Fin q):Mx q:=fun i k=>if i=r then t*A i k else A i k
def BB (A:Mx q)(n col:Nat)(iv:Fin q->Fin q):Mx q:=fun i k=>if n<i then A i k-A i col*iv (A n col)*A n k else A i k
def mAt (A:Mx q)(col:Nat):Nat->Nat->Nat
 |n,0=>n
 |n,s+1=>if A n col=0 then mAt A col (n+1) s else n
def rkS (iv:Fin q->Fin q)(m col:Nat)(S:Mx q×Nat):Mx q×Nat:=
 let a:=mAt S.1 col S.2 (m-S.2)
 if m<=a then S else(BB (BA S.1 S.2 a) S.2 col iv,S.2+1)
def rkC (iv:Fin q->Fin q)(m:Nat)(A:Mx q):Nat->Mx q×Nat
 |0=>(A,0)
 |c+1=>rkS iv m c (rkC iv m A c)
end
section
variable {q:Nat}[NeZero q]
def gjE (A:Mx q)(r s c:Nat)(iv:Fin q->Fin q):Mx q:=fun i k=>if i=r then A s k*iv (A s c)else BA A r s i k-A s k*iv (A s c)*BA A r s i c
structure GJ (A0 A:Mx q)(m n c r:Nat)(L:Nat->Nat):Prop where
 rm:r<=m
 sol: ∀x,Sol A m n x↔Sol A0 m n x
 one: ∀i,i<r-> ∀j,j<m->A j (L i)=if j=i then 1 else 0
 low: ∀i,i<r-> ∀k,k<L i->A i k=0
 out: ∀i,r<=i->i<m-> ∀k,k<c->A i k=0
 ltc: ∀i,i<r->L i<c
def gjX (A:Mx q)(n:Nat)(L:Nat->Nat):Nat->Nat->Fin q
 |0,_=>0
 |j+1,k=>if k=L j then A j n else gjX A n L j k
end
section
variable {q:Nat}[NeZero q]
def pmo:List (Fin q)->List (Fin q)
 |[]=>[1]
 |a::t=>pcv [-a,1] (pmo t)
def bkL (s n:Nat):List Nat:=(List.range n).filter fun i=>decide (s/2^i%2=1)
def mkT (iv:Fin q->Fin q)(xs ys:Nat->Fin q)(s n:Nat):List (Fin q):=Aq iv (fun k=>xs ((bkL s n).getD k 0)) (fun k=>ys ((bkL s n).getD k 0)) (bkL s n).length (bkL s n).length
end
section
variable {q:Nat}[NeZero q]
def eqR (x y:Fin q)(ct k:Nat):Fin q:=if k<ct then ppw x k else 0-ppw x (k-ct)*y
def eqM (xs ys:Nat->Fin q)(ct e:Nat):Mx q:=fun i k=>if k=ct+e then ppw (xs i) e*ys i else eqR (xs i) (ys i) ct k
def eqE (X:Nat->Fin q)(ct e k:Nat):Nat:=if k<e then(X (ct+k)).val else 1
end
open Go.RowKit
theorem FG:prog.underlying 52=some (.slice (prog.elem 52)):=by kernel_rfl
theorem JV (w:World):(zeroValue 3).run prog w= .ok (.int .i64 0) w:=by kernel_rfl
section
variable {P:Program}{ops:Array Oper}{C:World->Prop}{Q:Act->World->Prop}{fn:Nat->Bool}{i:Nat}{L:DL}{a:Act}{w:World}{o:Oper}
end
structure VsAt (w:World)(ab:Option Addr)(n:Nat)(S:Nat->Value)(gb ob:Nat)(bcs:Array Value)(tb:TypeId):Prop where
 at':n=0∨(ab=some ⟨gb,ob,none⟩/\WD w gb bcs tb/\ ∀i,i<n->bcs[ob+i*1]?=some (S i))
theorem VsAt.below {w w2:World}{ab:Option Addr}{n:Nat}{S:Nat->Value}{gb ob:Nat}{bcs:Array Value}{tb:TypeId}(h:VsAt w ab n S gb ob bcs tb)(hb:Below w.heap.size w w2):VsAt w2 ab n S gb ob bcs tb:=
 ⟨h.at'.imp id fun⟨h1,h2,h3⟩=>⟨h1,h2.belowAll hb,h3⟩⟩
def rsO (n r:Nat):Nat:=if n=r then 0 else 0+r*1
def DF (w:World)(v:Value)(n:Nat)(F:Nat->Nat):Prop:= ∃ab c gb ob bcs tb,v= .slice ab n c/\NatsAt w ab n F gb ob bcs tb
theorem DF.below {w w2:World}{v:Value}{n:Nat}{F:Nat->Nat}(h:DF w v n F)(hb:Below w.heap.size w w2):DF w2 v n F:=by
 obtain⟨ab,c,gb,ob,bcs,tb,h1,h2⟩:=h;exact⟨ab,c,gb,ob,bcs,tb,h1,h2.below hb⟩
section
variable {Q:Nat}[NeZero Q]{g gr gf P G:Nat}{w:World}
end
def rr (x n:Nat):Nat:=x/2^n|||x*2^(32-n)%4294967296
def ss0 (x:Nat):Nat:=rr x 7^^^rr x 18^^^x/2^3
def ss1 (x:Nat):Nat:=rr x 17^^^rr x 19^^^x/2^10
def bs0 (x:Nat):Nat:=rr x 2^^^rr x 13^^^rr x 22
def bs1 (x:Nat):Nat:=rr x 6^^^rr x 11^^^rr x 25
def chf (x y z:Nat):Nat:=x&&&y^^^(4294967295^^^x)&&&z
def mjf (x y z:Nat):Nat:=x&&&y^^^x&&&z^^^y&&&z
def kL:List Nat:=[1116352408,1899447441,3049323471,3921009573,961987163,1508970993,2453635748,2870763221,3624381080,310598401,607225278,1426881987,1925078388,2162078206,2614888103,3248222580,3835390401,4022224774,264347078,604807628,770255983,1249150122,1555081692,1996064986,2554220882,2821834349,2952996808,3210313671,3336571891,3584528711,113926993,338241895,666307205,773529912,1294757372,1396182291,1695183700,1986661051,2177026350,2456956037,2730485921,2820302411,3259730800,3345764771,3516065817,3600352804,4094571909,275423344,430227734,506948616,659060556,883997877,958139571,1322822218,1537002063,1747873779,1955562222,2024104815,2227730452,2361852424,2428436474,2756734187,3204031479,3329325298]
def ivL:List Nat:=[1779033703,3144134277,1013904242,2773480762,1359893119,2600822924,528734635,1541459225]
def kf (t:Nat):Nat:=kL.getD t 0
def ivf (t:Nat):Nat:=ivL.getD t 0
def wrd (b:Nat->Nat)(t:Nat):Nat:=b (4*t)*2^24|||b (4*t+1)*2^16|||b (4*t+2)*2^8|||b (4*t+3)
def nxt (b:Nat->Nat)(l:List Nat)(n:Nat):Nat:=
 if n<16 then wrd b n else(ss1 (l.getD (n-2) 0)+l.getD (n-7) 0+ss0 (l.getD (n-15) 0)+l.getD (n-16) 0)%4294967296
def wl (b:Nat->Nat):Nat->List Nat
 |0=>[]
 |n+1=>wl b n++[nxt b (wl b n) n]
def wf (b:Nat->Nat)(t:Nat):Nat:=(wl b (t+1)).getD t 0
def t1f (v:Nat->Nat)(k w:Nat):Nat:=v 7+bs1 (v 4)+chf (v 4) (v 5) (v 6)+k+w
def t2f (v:Nat->Nat):Nat:=bs0 (v 0)+mjf (v 0) (v 1) (v 2)
def stp (v:Nat->Nat)(k w:Nat)(i:Nat):Nat:=
 if i=0 then(t1f v k w+t2f v)%4294967296 else if i=4 then(v 3+t1f v k w)%4294967296 else v (i-1)
def rnd (W:Nat->Nat)(v:Nat->Nat):Nat->Nat->Nat
 |0=>v
 |t+1=>stp (rnd W v t) (kf t) (W t)
def cmp (v b:Nat->Nat)(i:Nat):Nat:=(v i+rnd (wf b) v 64 i)%4294967296
def ab (f:Nat->Nat):Nat->Nat->Nat
 |0=>ivf
 |n+1=>cmp (ab f n) fun i=>f (64*n+i)
def bf (l:List UInt8)(i:Nat):Nat:=(l.getD i 0).toNat
def be8 (m:Nat):List UInt8:=(List.range 8).map fun k=>UInt8.ofNat (m/2^(8*(7-k))%256)
def zs (n:Nat):Nat:=(119-n%64)%64
def tl (n:Nat):List UInt8:=128::(List.replicate (zs n) 0++be8 (8*n))
def sw (l:List UInt8):Nat->Nat:=ab (bf l) (l.length/64)
def AO (v:Nat->Nat):List UInt8:=(List.range 32).map fun i=>UInt8.ofNat (v (i/4)/2^(8*(3-i%4))%256)
def sha (l:List UInt8):List UInt8:=AO (sw (l++tl l.length))
def rC (k:IntKind)(n:Nat)(u:Nat->Nat):Array Value:=Array.ofFn (n:=n) fun i=>.int k (u i:Nat)
theorem X6 (k:IntKind)(n:Nat)(u:Nat->Nat):(rC k n u).size=n:=by simp[rC]
theorem UH (k:IntKind)(n:Nat)(u:Nat->Nat)(i:Nat)(h:i<n):(rC k n u)[i]?=some (.int k (u i:Nat)):=by simp[rC,h]
theorem DG (k:IntKind)(n:Nat)(u v:Nat->Nat)(i N:Nat)(hv: ∀j,j<n->v j=if j=i then N else u j):(rC k n u).setIfInBounds i (.int k (N:Nat))=rC k n v:=by
 apply Array.ext_getElem?;intro j;by_cases hj:j<n
 ·rw[UH k n v j hj,Array.getElem?_setIfInBounds,hv j hj];by_cases e:i=j
  ·subst e;rw[if_pos rfl,if_pos (by rw[X6];exact hj),if_pos rfl]
  ·rw[if_neg e,if_neg (fun x=>e x.symm),UH k n u j hj]
 ·rw[Array.getElem?_eq_none (by rw[Array.size_setIfInBounds,X6];omega),Array.getElem?_eq_none (by rw[X6];omega)]
section
variable {P:Program}{o:Oper}{ρ:Operand->Value}
theorem DH (s d:TypeId)(x:Operand)(ho:o.op= .convert s d x)(ks kd:IntKind)(hs:P.underlying s=some (.int ks))(hd:P.underlying d=some (.int kd))(n:Int)(r:Int)(hx:ρ x= .int ks n)(hr:kd.wrap n=r)(w:World):
  (execOp ρ o).run P w= .ok (.value (.int kd r)) w:=by
 subst hr;unfold execOp;simp only[ho,hx];simp[convert,run_underlying hs,run_underlying hd,go_sem]
theorem Rl (t:TypeId)(x:Operand)(ho:o.op= .call {callee:=.builtin .len,args:=#[x],argTypes:=#[t]})(s:ByteArray)(hx:ρ x= .string s)(hu:P.underlying t=some .string)(w:World):
  (execOp ρ o).run P w= .ok (.value (.int .i64 s.size)) w:=by
 unfold execOp;simp only[ho];simp[resolve,invoke,builtin,hx,go_sem,goInt,hu]
theorem DI (t:TypeId)(x:Operand)(ho:o.op= .call {callee:=.builtin .len,args:=#[x],argTypes:=#[t]})(q:Option Addr)(n c:Nat)(hx:ρ x= .slice q n c)(hu:P.underlying t=some (.slice (P.elem t)))(w:World):
  (execOp ρ o).run P w= .ok (.value (.int .i64 n)) w:=by
 unfold execOp;simp only[ho];simp[resolve,invoke,builtin,hx,run_len_slice w t _ q n c hu,goInt]
theorem Yy (t:TypeId)(x y:Operand)(u:TypeId)(ho:o.op= .binOp .eql t x y u)(k:IntKind)(n m:Int)(hx:ρ x= .int k n)(hy:ρ y= .int k m)(b:Bool)(hb:decide (n=m)=b)(w:World):
  (execOp ρ o).run P w= .ok (.value (.bool b)) w:=by
 subst hb;unfold execOp;simp only[ho,hx,hy];simp[eqGuard,go_sem];rfl
end
def upto (F:Nat->Nat)(i j:Nat):Nat:=if j<i then F j else 0
def KT (w:World):Prop:= ∃cs t,WD w 0 cs t/\ ∀i,i<64->cs[i]?=some (.int .u32 (kf i:Nat))
theorem KT.below {w w2:World}(h:KT w)(hb:Below w.heap.size w w2):KT w2:=by
 obtain⟨cs,t,r,hk⟩:=h;exact⟨cs,t,r.belowAll hb,hk⟩
theorem KT.kept {w w2:World}{S:List Nat}(h:KT w)(hk:Kept S w w2)(hS:0∉S):KT w2:=by
 obtain⟨cs,t,r,hc⟩:=h;exact⟨cs,t,hk.rowR r hS,hc⟩
theorem KT.lt {w:World}(h:KT w):0<w.heap.size:=by
 obtain⟨cs,t,r,hc⟩:=h;exact r.lt
def mixu (F G:Nat->Nat)(i j:Nat):Nat:=if j<i then F j else G j
def hv (q:Bool)(v B:Nat->Nat)(c:Nat)(i:Nat):Value:=
 if i=0 then .bool q else if i<9 then .int .u32 (v (i-1):Nat)else if i<73 then .int .u8 (B (i-9):Nat)else .int .u64 c
def hC (q:Bool)(v B:Nat->Nat)(c:Nat):Array Value:=Array.ofFn (n:=74) fun i=>hv q v B c i
def b8s (l:List UInt8):List Value:=l.map fun b=>.int .u8 (b.toNat:Int)
theorem VO (l:List UInt8):(b8s l).length=l.length:=by simp[b8s]
theorem FH (l:List UInt8)(j:Nat)(h:j<l.length):(b8s l)[j]?=some (.int .u8 (bf l j:Nat)):=by
 unfold b8s bf;rw[List.getElem?_map,List.getD_eq_getElem?_getD,List.getElem?_eq_getElem h];rfl
theorem FI (l:List UInt8): ∀x∈b8s l,x.oneCell'=true:=by
 intro x hx;obtain⟨b,_,rfl⟩:=List.mem_map.1 hx;rfl
def cpB (B:Nat->Nat)(F:Nat)(l:List UInt8)(i:Nat):Nat:=if F<=i/\i<F+l.length then bf l (i-F)else B i
section
variable {P:Program}{o:Oper}{ρ:Operand->Value}
end
section
variable {P:Program}{olds:Wz}{p:Nat->Nat}{W:World}{F:Act->Ct->Prop}{n:Nat}{l:List Oper}{pl:List Sp}{a:Act}{ct:Ct}{o:Oper}
theorem JW (k:Nat)(c:Array Value)(v:Value){t:TypeId}{old:Array Value}(hct:ct k=some (t,old))(hst: ∀w,Row w (ZY olds p k) old t-> ∃w2,(execOp a.eval o).run P w= .ok (.value v) w2/\Row w2 (ZY olds p k) c t/\Only (ZY olds p k) w w2)
  (h:MX P olds p W F (n+1) l pl (a.put o.dst v) (XC ct k (t,c))):MX P olds p W F n (o::l) ((fun _=>v,[],none,[(k,c)])::pl) a ct:=by
 refine⟨⟨⟨.inl ⟨v,rfl⟩,fun x hx=>?_,fun w hk hrw=>?_⟩,?_⟩⟩
 ·obtain rfl:x=(k,c):=List.mem_singleton.1 hx;exact⟨_,hct⟩
 ·obtain⟨w2,hr,r2,ho⟩:=hst w (hrw k (List.mem_append_right _ (List.mem_singleton.2 rfl)) _ hct);rw[hr];refine⟨ho.os,ho.tape,ho.output,by rw[ho.size];exact Nat.le_refl _,fun b _ hne=>ho.block b (hne (k,c) (List.mem_singleton.2 rfl)),fun x hx y hy=>?_,.inl ⟨rfl,rfl⟩⟩;obtain rfl:x=(k,c):=List.mem_singleton.1 hx;obtain rfl:(t,old)=y:=Option.some.inj (hct.symm.trans hy);exact r2
 ·rw[Nx n _ _ k c ct hct];exact h.out
theorem Rm (w:World)(dT sT ty e:TypeId)(g off m cap:Nat)(L:List UInt8)(hd:P.underlying dT=some (.slice e))(hz: ∀w,(sizeOf e).run P w= .ok 1 w)(n:Nat)(hn:min L.length m=n)
  (hth:w.there g off n):(Builtin.copy_ #[dT,sT] ty #[.slice (some ⟨g,off,none⟩) m cap,.string ⟨L.toArray⟩]).run P w= .ok (goInt n) (w.setCells g off (b8s (L.take n))):=by
 have hs:(⟨L.toArray⟩:ByteArray).size=L.length:=by simp[ByteArray.size]
 have hle:n<=L.length:=by omega
 have hcells:((⟨L.toArray⟩:ByteArray).extract 0 n).data.map (fun b=>Value.int .u8 (b.toNat:Int))=(b8s (L.take n)).toArray:=by
  rw[ByteArray.data_extract];simp[b8s]
 have hlen:(b8s (L.take n)).length=n:=by rw[VO,List.length_take];omega
 have hst:=run_storeCells_cells (P:=P) g off (b8s (L.take n)) 0 w (fun j hj=>(hth j (by omega)).1) (fun j hj=>(hth j (by omega)).2) (FI _);rw[Nat.add_zero]at hst
 have hmin:Nat.min (⟨L.toArray⟩:ByteArray).size m=n:=by rw[hs];exact hn
 simp only[Builtin.copy_,List.getElem?_toArray,List.getElem?_cons_zero,List.getElem?_cons_succ];simp only[Sem.run_bind,run_underlying hd,Result.andThen_ok,Builtin.lenOf,Sem.run_pure,hz,Builtin.firstCells,hmin,hcells,hst]
theorem JX (k:Nat)(d s:Operand)(dT sT e:TypeId)(ho:o.op= .call {callee:=.builtin .copy,args:=#[d,s],argTypes:=#[dT,sT]})(hud:P.underlying dT=some (.slice e))(hz: ∀w,(sizeOf e).run P w= .ok 1 w)
  (off m cap:Nat){t:TypeId}{old:Array Value}(hct:ct k=some (t,old))(hx:a.eval d= .slice (some ⟨ZY olds p k,off,none⟩) m cap)(L:List UInt8)(hy:a.eval s= .string ⟨L.toArray⟩)(q:Nat)(hq:min L.length m=q)
  (hold:off+q<=old.size)(c:Array Value)(hc:Sn old off (b8s (L.take q))=c)
  (h:MX P olds p W F (n+1) l pl (a.put o.dst (.int .i64 (q:Nat))) (XC ct k (t,c))):MX P olds p W F n (o::l) ((fun _=>.int .i64 (q:Nat),[],none,[(k,c)])::pl) a ct:=by
 subst hc;refine JW k _ (.int .i64 (q:Nat)) hct (fun w hr=>⟨w.setCells (ZY olds p k) off (b8s (L.take q)),?_,Row.setCells _ _ hr,YZ _ _ _ _⟩) h;have:=Rm (P:=P) w dT sT o.type e (ZY olds p k) off m cap L hud hz q hq (Xs hr off q hold);unfold execOp;simp only[ho];simp[resolve,invoke,builtin,hx,hy,this,goInt]
end
structure HS (l:List UInt8)(B:Nat->Nat):Prop where
 b: ∀i,i<l.length%64->B i=bf l (64*(l.length/64)+i)
 lt: ∀i,B i<256
theorem JY: ∃i,prog.info? 5=some i/\i.zero=some (.int .u8 0)/\i.size=1/\i.bytes=1:=by
 have h:(prog.info? 5).map (fun i=>(i.zero,i.size,i.bytes))=some (some (.int .u8 0),1,1):=by kernel_rfl
 cases hq:prog.info? 5 with
 |none=>simp[hq]at h
 |some i=>
  simp[hq]at h;exact⟨i,rfl,h.1,h.2.1,h.2.2⟩
theorem FJ (n:Nat):madeCells #[.int .u8 0] n=rC .u8 n fun _=>0:=by
 apply Array.ext_getElem?;intro i;by_cases hi:i<n
 ·rw[UH _ _ _ _ hi];unfold madeCells;simp[hi,Nat.mod_one]
 ·rw[Array.getElem?_eq_none (by rw[size_madeCells];omega),Array.getElem?_eq_none (by rw[X6];omega)]
section
variable {P:Program}{olds:Wz}{p:Nat->Nat}{W:World}{F:Act->Ct->Prop}{n:Nat}{l:List Oper}{pl:List Sp}{a:Act}{ct:Ct}{o:Oper}{ρ:Operand->Value}
theorem JZ (x y:Operand)(ho:o.op= .makeSlice 122 x y)(k:IntKind)(m:Nat)(hx:a.eval x= .int k m)(hy:a.eval y= .int k m)(hm:m<=16777216)
  (h:MX prog olds p W F (n+1) l pl (a.put o.dst (.slice (some ⟨p n,0,none⟩) m m)) (XC ct (2*n+1) (5,rC .u8 m fun _=>0))):
  MX prog olds p W F n (o::l) ((fun q=>.slice (some ⟨q n,0,none⟩) m m,[],some (5,rC .u8 m fun _=>0),[])::pl) a ct:=
 Ua (fun g=>.slice (some ⟨g,0,none⟩) m m) 5 _ (fun w=>by
  obtain⟨i,h1,h2,h3,h4⟩:=JY;have hr:=run_makeSlice (P:=prog) w 122 5 i (.int .u8 0) underlying122 h1 h2 k k (m:Int) (m:Int) (by omega) (by omega) (by rw[Int.toNat_natCast,h3];omega) (by rw[h4];omega) (by omega);rw[Int.toNat_natCast,h3,Nat.mul_one,show(Value.int IntKind.u8 0).cells=#[.int .u8 0]from rfl,FJ]at hr;unfold execOp;simp only[ho,hx,hy,Sem.run_bind,hr,Result.andThen_ok]
  rfl) h
theorem DJ (t:TypeId)(x y:Operand)(ho:o.op= .indexAddr t x y)(g off len cap:Nat)(hx:ρ x= .slice (some ⟨g,off,none⟩) len cap)(i:Nat)(hy:ρ y= .int .i64 i)(hi:i<len)(e:TypeId)(hu:P.underlying t=some (.slice e))
  (hz: ∀w,(sizeOf e).run P w= .ok 1 w)(r:Nat)(hr:off+i=r)(w:World):(execOp ρ o).run P w= .ok (.value (.pointer (some ⟨g,r,none⟩))) w:=by
 subst hr;have:=Zs (P:=P) (o:=o) t x y ho g off len cap hx i hy hi e hu 1 hz w;rw[Nat.mul_one]at this;exact this
theorem DK (x:Operand)(ho:o.op= .convert 122 9 x)(g off cap n:Nat)(l:List UInt8)(hx:ρ x= .slice (some ⟨g,off,none⟩) n cap)(hn:l.length=n){cs:Array Value}{t:TypeId}(w:World)(hr:WD w g cs t)
  (hc: ∀j,j<l.length->cs[off+j]?=some (.int .u8 (bf l j:Nat))):(execOp ρ o).run prog w= .ok (.value (.string ⟨l.toArray⟩)) w:=by
 subst hn
 have h:=run_convert_bytes_back (P:=prog) w 122 9 5 ⟨g,off,none⟩ cap l underlying122 underlying5 underlying9 (fun j hj=>by
  rw[Addr.add_mid,hr.cell,hc j hj];unfold bf;rw[List.getD_eq_getElem?_getD,List.getElem?_eq_getElem hj]
  rfl)
 unfold execOp;simp only[ho,hx,Sem.run_bind,h,Result.andThen_ok];rfl
end
theorem J0 (L:List UInt8):Sn (rC .u8 L.length fun _=>0) 0 (b8s (L.take L.length))=rC .u8 L.length (bf L):=by
 rw[List.take_length];apply Array.ext_getElem?;intro i;rw[VX _ _ _ _ (by rw[VO,X6];omega),VO];by_cases hi:i<L.length
 ·rw[UH .u8 L.length (bf L) i hi,if_pos (by omega),Nat.sub_zero,FH _ _ (by omega)]
 ·rw[if_neg (by omega),Array.getElem?_eq_none (by rw[X6];omega),Array.getElem?_eq_none (by rw[X6];omega)]
theorem FK:prog.cellsOf 5=1:=by kernel_rfl
theorem DM {o:Oper}{ρ:Operand->Value}(x y:Operand)(pt it:TypeId)(ho:o.op= .call {callee:=.builtin .unsafeString,args:=#[x,y],argTypes:=#[pt,it]})(hp:prog.underlying pt=some (.pointer 5))(g:Nat)(l:List UInt8)(hx:ρ x= .pointer (some ⟨g,0,none⟩))(hy:ρ y= .int .i64 (l.length:Nat))
  (w:World)(hr:Row w g (rC .u8 l.length (bf l)) 5)(h0:l≠[])(h63:l.length<=9223372036854775807):(execOp ρ o).run prog w= .ok (.value (.string ⟨l.toArray⟩)) (w.freeze ⟨g,0,none⟩ l.length):=by
 have h:=Lib.run_unsafeString_row (P:=prog) w pt it o.type 5 hp FK g l.length (by unfold World.shape?;rw[hr];simp[X6]) l h0 (Nat.le_refl _) h63 (fun j b hj=>by
  have hl:j<l.length:=(List.getElem?_eq_some_iff.1 hj).1;rw[Addr.add_mid,hr.r.cell,Nat.zero_add,UH _ _ _ _ hl];unfold bf;rw[List.getD_eq_getElem?_getD,hj]
  rfl)
 unfold execOp;simp only[ho];simp only[resolve,invoke,Sem.run_bind,Sem.run_pure,Result.andThen_ok,List.map_toArray,List.map_cons,List.map_nil,hx,hy];simp[builtin,h]
theorem OM (l:List UInt8)(w:World)(hl:l.length<=16777216):
  Calls prog 90 #[.string ⟨l.toArray⟩] w fun e w'=>e= .returned (.string ⟨l.toArray⟩)/\Below w.heap.size w w':=by
 by_cases h:l.length=0
 ·obtain rfl:l=[]:=List.eq_nil_of_length_eq_zero h;clear h hl
  go_enter func90,ntmps90
  iterate 2 go_step
  refine rp ?_;refine YI (by rfl) (.inr rfl) rfl ?_;simp only[pv];refine Za ?_;have sb:=Below.refl w.heap.size w;iterate 4 go_step
  refine rp ?_;refine p_m ?_;simp only[pv];refine p_v _ (YA _ _ rfl [] rfl underlying9) ?_;simp only[pv];refine p_v _ (Yy _ _ _ _ rfl .i64 0 0 rfl rfl true rfl) (Za ?_);simp only[pv];iterate 4 go_step
  refine rp ?_;refine YI (by rfl) (.inr rfl) rfl ?_;simp only[pv];refine Za ?_;go_wp2;go_ret;exact⟨rfl,sb⟩
 ·have h0:l≠[]:=fun e=>h (by rw[e];rfl)
  have hcp:=J0 l;have hq:min l.length l.length=l.length:=Nat.min_self _;have hx:(l.length:Int)≠0:=by omega
  have h1:0<l.length:=by omega
  go_enter func90,ntmps90
  iterate 2 go_step
  refine rp ?_;refine YI (by rfl) (.inr rfl) rfl ?_;simp only[pv];refine Za ?_;have sb:=Below.refl w.heap.size w;iterate 4 go_step
  refine rp ?_;refine p_m ?_;simp only[pv];refine p_v _ (YA _ _ rfl l rfl underlying9) ?_;simp only[pv];refine p_v _ (Yy _ _ _ _ rfl .i64 (l.length:Nat) 0 rfl rfl false (decide_eq_false hx)) (Za ?_);simp only[pv];iterate 7 go_step
  apply Zd [] [_,_,_,_] trivial List.nodup_nil
  ·intro p;refine m_m ?_;simp only[pv];refine Zg _ (YA _ _ rfl l rfl underlying9) ?_;simp only[pv];refine JZ _ _ rfl .i64 l.length rfl rfl hl ?_;simp only[pv];refine Tu 2 (fun g=>.slice (some ⟨g,0,none⟩) l.length l.length) (.inl rfl) (by omega) rfl ?_;simp only[pv];refine Zi ?_;intro w4 hkw hrw hnew hdis;have n9:=hnew 2 rfl;have zr9:Row w4 (p 2) (rC .u8 l.length fun _=>0) 5:=hrw 5 (5,rC .u8 l.length fun _=>0) rfl;have b9:=Nat.le_trans sb.size n9;replace sb:=kk sb hkw;clear hkw hrw hnew hdis n9;generalize p 2=g9 at*;have r9:=zr9;clear zr9;iterate 3 go_step
   apply Zd [(g9,5,rC .u8 l.length fun _=>0)] [_,_,_] ⟨r9,trivial⟩ (by simp<;>omega)
   ·intro p;refine m_m ?_;refine m_m ?_;simp only[pv];refine JX 0 _ _ _ _ 5 rfl underlying122 sizeOf5 0 l.length l.length rfl rfl l rfl l.length hq (by rw[X6];omega) (rC .u8 l.length (bf l)) hcp ?_;simp only[pv];refine Zi ?_;intro w5 hkw hrw hnew hdis;have zr9:Row w5 (g9) (rC .u8 l.length (bf l)) 5:=hrw 0 (5,rC .u8 l.length (bf l)) rfl;replace sb:=kk sb hkw;clear hkw hrw hnew hdis r9;have r9:=zr9;clear zr9;iterate 3 go_step
    refine rp ?_;refine p_m ?_;simp only[pv];refine p_v _ (DJ _ _ _ rfl g9 0 l.length l.length rfl 0 rfl h1 _ underlying122 sizeOf5 0 rfl) ?_;refine p_m ?_;simp only[pv];refine p_v _ (DI _ _ rfl _ _ _ rfl underlying122) ?_;simp only[pv];refine Xt (by rfl) (.string ⟨l.toArray⟩) _ (DM _ _ _ _ rfl underlying206 g9 l rfl rfl _ r9 h0 (by omega)) ?_;simp only[pv];replace sb:=Lib.below_freeze sb (p:=⟨g9,0,none⟩) b9 l.length;clear r9;refine p_a (Za ?_);simp only[pv];go_wp2;go_ret;exact⟨rfl,sb⟩
   ·rfl
  ·rfl
theorem M4 (l:List UInt8)(w:World)(hl:l.length<=16777216):
  Calls prog 47 #[.string ⟨l.toArray⟩] w fun e w'=>e= .returned (.string ⟨l.toArray⟩)/\Below w.heap.size w w':=by
 go_enter func47,ntmps47
 iterate 2 go_step
 refine rp ?_;refine YI (by rfl) (.inr rfl) rfl ?_;simp only[pv];refine Za ?_;have sb:=Below.refl w.heap.size w;iterate 3 go_step
 refine rp ?_;refine p_m ?_;simp only[pv];refine p_c 90 func90 #[.string ⟨l.toArray⟩] (OM l _ hl) ?_;intro z1001 k;simp only[pv];replace sb:=kk sb k;clear k;refine p_a (Za ?_);simp only[pv];go_wp2;go_ret;exact⟨rfl,sb⟩
def th3 (A B C i:Nat):Nat:=if i=0 then A else if i=1 then B else C
def smQ (a0:Int):Nat:=lN (pk2 (pkB a0) otL leL) (3-2)
def smP (a0:Int):Nat:=lN (pk2 (pkB a0) otL leL) (3-1)
def smG (a0:Int):Nat:=pk2 (pkB a0) otG leG
instance:NeZero 1966023127:=⟨by decide⟩
theorem XI:prog.underlying 62=some (.slice (prog.elem 62)):=by kernel_rfl
theorem DN (a:Int)(k:Nat)(hk:k=1):Instr.fill (fun i=>some (i*k,k)) ((Array.range (1*k)).map ((Value.int .i64 0).cells[· %(Value.int .i64 0).cells.size]!)) [(0,.int .i64 a)]=some #[.int .i64 a]:=by
 subst hk
 kernel_rfl
section
variable {Q:Nat}[NeZero Q]
def BC (w:World)(v:Value)(L:List (Fin Q)):Prop:= ∃ab c gb ob bcs tb,v= .slice ab L.length c/\L.length<=c/\NumsAt w ab L.length (fun i=>(pco L i).val) gb ob bcs tb
theorem BC.below {w w':World}{v:Value}{L:List (Fin Q)}(h:BC w v L)(hb:Below w.heap.size w w'):BC w' v L:=by
 obtain⟨ab,c,gb,ob,bcs,tb,h1,h2,h3⟩:=h;exact⟨ab,c,gb,ob,bcs,tb,h1,h2,h3.below hb⟩
end
def rEv (q:Nat)(u:Nat->Nat)(x:Nat):Nat->Nat×Nat
 |0=>(0,1)
 |k+1=>(((rEv q u x k).1+u k*(rEv q u x k).2%q)%q,(rEv q u x k).2*x%q)
def C5 (q m:Nat)(A B:Nat->Nat):Nat->Nat->Nat
 |0,_=>0
 |i+1,j=>if i<=j/\j<i+m then(C5 q m A B i j+A i*B (j-i)%q)%q else C5 q m A B i j
def rIn (q m:Nat)(A B:Nat->Nat)(i k j:Nat):Nat:=if i<=j/\j<i+k then(C5 q m A B i j+A i*B (j-i)%q)%q else C5 q m A B i j
section
variable {Q:Nat}[NeZero Q]
end
section
variable {P:Program}{ops:Array Oper}{Q:Exit->Act->World->Prop}{rest:List Oper}{o:Oper}{a:Act}{w:World}
end
section
variable {ops:Array Oper}{Q:Exit->Act->World->Prop}{rest:List Oper}{o:Oper}{a:Act}{w:World}
end
section
variable {ops:Array Oper}{Q:Exit->Act->World->Prop}{rest:List Oper}{o:Oper}{a:Act}{w:World}
end
theorem M5 (n:Nat){u u2:Nat->Nat}(h: ∀i,i<n->u i=u2 i):isC n u=isC n u2:=by
 apply Array.ext_getElem?;intro i;by_cases hi:i<n
 ·rw[XB n u i hi,XB n u2 i hi,h i hi]
 ·rw[Array.getElem?_eq_none (by rw[Xh];omega),Array.getElem?_eq_none (by rw[Xh];omega)]
def swi (a b i:Nat):Nat:=if i=a then b else if i=b then a else i
abbrev Ky:=List UInt8
def lb (a b:Ky):Bool:=Op.bytesLess a b
def Srt (l:List Ky):Prop:=l.Pairwise fun a b=>lb a b=true
def rk (x:Ky)(l:List Ky):Nat:=l.countP fun y=>lb y x
def AP (x:Ky)(l:List Ky):List Ky:=l.take (rk x l)++x::l.drop (rk x l)
def As (n m e:Int):Bool:=decide (1<=e/\e<=n+m)
def kyB (x:Ky):Bool:=decide (1<=x.length/\x.length<=8)
def quo (n m e:Int):Int:=if As n m e=true then(if e<=n then m*n*4 else 4)else 0
def opE (n m:Int)(l:List Ky)(u:Int)(x:Ky)(e:Int):Int:=if As n m e=true/\kyB x=true then(if x∈l then 0 else if quo n m e<=u then 7 else 0)else 1
def opF (n m:Int)(l:List Ky)(u:Int)(x:Ky)(e:Int):Bool:=decide (opE n m l u x e=0)&& !decide (x∈l)
def opP (n m:Int)(l:List Ky)(u:Int)(x:Ky)(e:Int):Nat:=if opE n m l u x e=0 then rk x l else 0
def opK (n m:Int)(l:List Ky)(u:Int)(x:Ky)(e:Int):List Ky:=if opF n m l u x e=true then AP x l else l
def opU (n m:Int)(l:List Ky)(U:Int->Int)(x:Ky)(e:Int):Int->Int:=if opF n m l (U e) x e=true then fun k=>if k=e then U k+1 else U k else U
def fdP (l:List Ky)(x:Ky):Nat:=if x∈l then rk x l else 0
def fdB (l:List Ky)(x:Ky):Bool:=decide (x∈l)
def usd (es:List Int)(e:Int):Int:=(es.countP fun k=>decide (k=e):Nat)
structure SRel (ks:List Ky)(U:Int->Int)(us:List Ky)(es:List Int):Prop where
 srt:Srt ks
 perm:us.Perm ks
 used: ∀e,U e=usd es e
 len:es.length=us.length
theorem SRel.nil:SRel [] (fun _=>0) [] []:=⟨List.Pairwise.nil,.refl _,fun _=>rfl,rfl⟩
def opL (n m:Int)(us:List Ky)(es:List Int)(x:Ky)(e:Int):List Ky:=if opF n m us (usd es e) x e=true then us++[x]else us
def opS (n m:Int)(us:List Ky)(es:List Int)(x:Ky)(e:Int):List Int:=if opF n m us (usd es e) x e=true then es++[e]else es
end Go.Proofs.YtcdahmommonnfaaGreatDoor
