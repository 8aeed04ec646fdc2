import Derived.Test.YtnagnkhbamhfmaaGreatDoorPyFun
import Derived.OwnWalk
set_option maxRecDepth 100000
set_option maxHeartbeats 8000000
namespace Go.Proofs.YtnagnkhbamhfmaaGreatDoor
set_option linter.all false
open Go.RowKit
section
variable {Q:Nat}[NeZero Q]
def PlA (w:World)(v:Value)(L:List (Fin Q)):Prop:= ∃ab n c F gb ob bcs tb,v= .slice ab n c/\n<=1000/\NatsAt w ab n F gb ob bcs tb/\fl n F=L
def Ma (w:World)(v:Value)(L:List (Fin Q)):Prop:= ∃ab c gb ob bcs tb,v= .slice ab L.length c/\NatsAt w ab L.length (fun i=>(pco L i).val) gb ob bcs tb
theorem PlA.below {w w':World}{v:Value}{L:List (Fin Q)}(h:PlA w v L)(hb:Below w.heap.size w w'):PlA w' v L:=by
 obtain⟨ab,n,c,F,gb,ob,bcs,tb,h1,h2,h3,h4⟩:=h;exact⟨ab,n,c,F,gb,ob,bcs,tb,h1,h2,h3.below hb,h4⟩
theorem Ma.below {w w':World}{v:Value}{L:List (Fin Q)}(h:Ma w v L)(hb:Below w.heap.size w w'):Ma w' v L:=by
 obtain⟨ab,c,gb,ob,bcs,tb,h1,h3⟩:=h;exact⟨ab,c,gb,ob,bcs,tb,h1,h3.below hb⟩
theorem Ma.arg {w:World}{v:Value}{L:List (Fin Q)}(h:Ma w v L)(hl:L.length<=1000):PlA w v L:=by
 obtain⟨ab,c,gb,ob,bcs,tb,h1,h3⟩:=h;exact⟨ab,_,c,_,gb,ob,bcs,tb,h1,hl,h3,J7 L⟩
theorem NatsAt.pl {w:World}{ab:Option Addr}{n c:Nat}{F:Nat->Nat}{gb ob:Nat}{bcs:Array Value}{tb:TypeId}(h:NatsAt w ab n F gb ob bcs tb)(hn:n<=1000):PlA w (.slice ab n c) (fl n F:List (Fin Q)):=
 ⟨ab,n,c,F,gb,ob,bcs,tb,rfl,hn,h,rfl⟩
theorem F3 (w:World):Ma w (.slice none 0 0) ([]:List (Fin Q)):=⟨none,0,0,0,#[],0,rfl,⟨.inl rfl,fun i hi=>by simp at hi⟩⟩
theorem B9 {w:World}{g n:Nat}{F:Nat->Nat}{L:List (Fin Q)}(r:Row w g (nsC n F) 57)(hQ:Q<2^256)(hF: ∀i,i<n->F i<Q)(hL: ∀i,pco (fl n F:List (Fin Q)) i=pco L i):Ma w (.slice (some ⟨g,0,none⟩) (yTn F n) n) (Yn L):=by
 obtain⟨h1,h2⟩:=LB n F L hF hL;have h:=(YV r fun i hi=>E_ (hF i hi) hQ).take (Un F n);rw[h1]at h h2;rw[h1];exact⟨_,_,_,_,_,_,rfl,h.congr fun i hi=>h2 i hi⟩
section
variable {g gr gf P G:Nat}{w:World}
theorem vQ (va vb:Value)(La Lb:List (Fin Q))(q:FdQ Q)(h:GrpAt w g gr gf P Q G)(ha:PlA w va La)(hb:PlA w vb Lb):
  Calls Tryz.prog 139 #[.pointer (some ⟨g,0,none⟩),va,vb] w fun e w'=> ∃v,e= .returned v/\Ma w' v (Vi La Lb)/\Below w.heap.size w w':=by
 obtain⟨ab,n,c,F,gb,ob,bcs,tb,rfl,hn,hna,rfl⟩:=ha;obtain⟨ae,m,ce,E,ge,oe,ecs,te,rfl,hm,hnb,rfl⟩:=hb;refine(F0 _ ab ae n c m ce F E (fO Q) gb ob ge oe bcs ecs tb te w hn hm hna hnb (h.fa q)).mono ?_;rintro e w' ⟨gx,rfl,_,r,hb⟩
 have ea:(fl (yTn (yTm (fO Q) F) n) (yTm (fO Q) F):List (Fin Q))=Yn (fl n F):=by
  have h1:=LB n (yTm (fO Q) F) (fl n F:List (Fin Q)) (fun i _=>Ia F i) (fun i=>by rw[J9]);exact DP _ _ _ h1.1 h1.2
 have eb:(fl (yTn (yTm (fO Q) E) m) (yTm (fO Q) E):List (Fin Q))=Yn (fl m E):=by
  have h1:=LB m (yTm (fO Q) E) (fl m E:List (Fin Q)) (fun i _=>Ia E i) (fun i=>by rw[J9]);exact DP _ _ _ h1.1 h1.2
 have hp:=B9 (L:=Vi (fl n F) (fl m E)) r q.m (fun i _=>yE _ _ _ _ _) fun i=>by rw[yG,ea,eb,LC]
 rw[Ul]at hp;exact⟨_,rfl,hp,hb⟩
theorem Aa (va:Value)(La:List (Fin Q))(x:Nat)(hx:x<2^256)(q:FdQ Q)(h:GrpAt w g gr gf P Q G)(ha:PlA w va La):
  Calls Tryz.prog 65 #[.pointer (some ⟨g,0,none⟩),va,.agg (Zb x)] w (Rt (.agg (Zb (pev (fi x) La).val)) w):=by
 obtain⟨ab,n,c,F,gb,ob,bcs,tb,rfl,hn,hna,rfl⟩:=ha;have:=Ip (some ⟨g,0,none⟩) ab n c x F (fO Q) gb ob bcs tb w (by omega) hx hna (h.fa q);rw[yI]at this;exact this
end
end
theorem DU {P:Program}{o:Oper}{ρ:Operand->Value}(t:TypeId)(x lo hi:Operand)(ho:o.op= .slice t x (some lo) (some hi) none)(hu:P.underlying t=some (.slice (P.elem t)))(z:Nat)(hz: ∀w,(sizeOf (P.elem t)).run P w= .ok z w)(g off n c l h:Nat)(hx:ρ x= .slice (some ⟨g,off,none⟩) n c)(hl:ρ lo= .int .i64 l)(hh:ρ hi= .int .i64 h)(h1:l<=h)(h2:h<=c)(h3:l<c)(w:World):
  (execOp ρ o).run P w= .ok (.value (.slice (some ⟨g,off+l*z,none⟩) (h-l) (c-l))) w:=by
 have hr:(Instr.sliceAt t (.slice (some ⟨g,off,none⟩) n c) (some (.int .i64 l)) (some (.int .i64 h)) none).run P w= .ok (.slice (some ⟨g,off+l*z,none⟩) (h-l) (c-l)) w:=by
  rw[run_sliceAt_slice w t _ _ _ _ hu,run_slice_lh w t _ n c hu .i64 .i64 l h (by omega) (by omega) (by omega),hz,m_,q_,q_];unfold sliced;rw[j_ (by omega)];simp[Addr.add]
 unfold execOp;simp only[ho,hx,hl,hh,bA0,dT0,r_,hr,m_];rfl
def yTk (q:Nat)(lo:Nat)(B:Nat->Nat)(c:Nat)(R:Nat->Nat)(k i:Nat):Nat:=if lo<=i/\i<lo+k then sbN (R i) (B (i-lo)*c%q) q else R i
section
variable {Q:Nat}[NeZero Q]
end
theorem F4 (v f:Option Addr)(P Q G:Nat)(r:Option Addr)(w:World)(h:OH w v P Q G r f):
  Calls Tryz.prog 137 #[.pointer v] w fun e w'=>e= .returned (.bool (!f.isNone))/\Below w.heap.size w w':=by
 have hf:=fun w' (hb:Below w.heap.size w w')=>YO v P Q G r f w' (h.below hb)
 go_enter Tryz.func137,Tryz.ntmps137
 have sb:=YF w;iterate 2 go_step
 refine rp ?_;refine p_V (.bool false) (fun _=>rfl) ?_;iterate 3 go_step
 refine r_p ?_;refine p_c 98 Tryz.func98 #[.pointer v] (hf _ sb) ?_;intro z1001 k;refine p_W ?_;replace sb:=kk sb k;clear k;refine p_V _ (YR _ _ _ _ rfl f rfl rfl Ve) ?_;go_wp2;go_ret;exact⟨rfl,sb⟩
theorem Sb:Tryz.prog.built 57 [(0,.int .u64 1)]=some (Zb 1):=by kernel_rfl
def ivF {Q:Nat}[NeZero Q](x:Fin Q):Fin Q:=fi (Sz x.val Q)
theorem Iq {Q:Nat}[NeZero Q](q:FdQ Q)(a:Fin Q)(h:a≠0):a*ivF a=1:=by
 have h1:a.val%Q≠0:=by
  rw[g_ a.isLt];exact fun e=>h ((yB a).1 e)
 have h2:=wC q.pr h1;have h3:(fi (a.val*Sz a.val Q):Fin Q)=fi 1:=(FN _ _).2 (by rw[h2,g_ (by have:=q.pr.1;omega)]);rw[Um,TZ]at h3;exact h3
theorem Ir {Q:Nat}[NeZero Q]{w:World}{g A:Nat}(r:Row w g (Zb A) 57)(hA:A<2^256):PlA w (.slice (some ⟨g,0,none⟩) 1 1) [(fi A:Fin Q)]:=by
 exact(Xi r hA).pl (by decide)
theorem Ab {Q:Nat}[NeZero Q]{w:World}{g A B:Nat}(r:Row w g (Zb A++Zb B) 57)(hA:A<2^256)(hB:B<2^256):PlA w (.slice (some ⟨g,0,none⟩) 2 2) [(fi A:Fin Q),fi B]:=by
 exact(NQ r hA hB).pl (by decide)
def esC (k n:Nat)(C:Nat->Array Value):Array Value:=Array.ofFn (n:=n*k) fun i=>((C (i/k))[i.val%k]?).getD undef
theorem XR (k n:Nat)(C:Nat->Array Value):(esC k n C).size=n*k:=by simp[esC]
theorem Sc {k n:Nat}{C:Nat->Array Value}(hC: ∀i,(C i).size=k)(i j:Nat)(hi:i<n)(hj:j<k):(esC k n C)[i*k+j]?=(C i)[j]?:=by
 have h1:i*k+j<n*k:=l_ (Nat.add_lt_add_left hj _) (by rw[<-fL0];exact y_ k hi);have h2:(i*k+j)/k=i:=by rw[u_,cT0 (by omega),K_ hj,bM0]
 have h3:(i*k+j)%k=j:=by rw[u_,Nat.mul_add_mod,g_ hj]
 have h4:j<(C i).size:=by rw[hC];exact hj
 simp[esC,h1,h2,h3,h4]
theorem Tg {k n:Nat}{C:Nat->Array Value}(hC: ∀i,(C i).size=k)(i:Nat)(hi:i<n)(off:Nat)(ho:off=i*k): ∀j v,(C i).toList[j]?=some v->(esC k n C)[off+j]?=some v:=by
 intro j v hv;subst ho;rw[k_]at hv
 have hj:j<k:=by
  have:=(T_.1 hv).1;rw[hC]at this;exact this
 rw[Sc hC i j hi hj,hv]
theorem R9 {k n i:Nat}(h:i<n*k):i/k<n:=aP0 (by rw[u_];exact h)
theorem PC {k n:Nat}{C:Nat->Array Value}(hC: ∀i,(C i).size=k)(i:Nat)(h:i<n*k):(esC k n C)[i]?=(C (i/k))[i%k]?:=by
 have hk:0<k:=by
  rcases aO0 k with e|e
  ·rw[e,bK0]at h;omega
  ·exact e
 have e:i/k*k+i%k=i:=by rw[u_];exact R_ i k
 have:=Sc hC (i/k) (i%k) (R9 h) (n_ _ hk);rw[e]at this;exact this
theorem Uu {k n:Nat}{C D:Nat->Array Value}(h: ∀i,i<n->C i=D i):esC k n C=esC k n D:=by
 apply B_;intro i;by_cases hi:i<n*k
 ·have:=h (i/k) (R9 hi);simp[esC,hi,this]
 ·rw[h_ (by rw[XR];omega),h_ (by rw[XR];omega)]
theorem F5 {k:Nat}{C:Nat->Array Value}(hC: ∀i,(C i).size=k)(n:Nat):(esC k n C).toList++(C n).toList=(esC k (n+1) C).toList:=by
 refine gR0 fun j=>?_
 rw[hK0,D_,XR,k_,k_,k_];have hs:(n+1)*k=n*k+k:=fL0 n k;by_cases h:j<n*k
 ·rw[i_ h,PC hC j h,PC hC j (by omega)]
 ·rw[j_ h];by_cases h2:j<n*k+k
  ·obtain⟨d,rfl⟩: ∃d,j=n*k+d:=⟨j-n*k,by omega⟩
   rw[Sc hC n d (by omega) (by omega),bF0]
  ·rw[h_ (by rw[hC];omega),h_ (by rw[XR];omega)]
theorem Ac {k n:Nat}{C D:Nat->Array Value}(hC: ∀i,(C i).size=k)(hD: ∀i,(D i).size=k)(i:Nat)(hi:i<n)(off:Nat)(ho:off=i*k)(hd: ∀j,j<n->j≠i->D j=C j):SL (esC k n C) off (D i).toList=esC k n D:=by
 subst ho
 have h1:i*k+k<=n*k:=by rw[<-fL0];exact y_ k hi
 apply B_;intro x;rw[Uc _ _ _ _ (by rw[XR,D_,hD];exact h1),D_,hD];by_cases hx:x<n*k
 ·by_cases e:i*k<=x/\x<i*k+k
  ·rw[i_ e];obtain⟨d,rfl⟩: ∃d,x=i*k+d:=⟨x-i*k,by omega⟩
   rw[bF0,Sc hD i d hi (by omega),k_]
  ·rw[j_ e,PC hC x hx,PC hD x hx,hd (x/k) (R9 hx) (fun h=>e ?_)]
   have hk:0<k:=by
    rcases aO0 k with e|e
    ·rw[e,bK0]at hx;omega
    ·exact e
   have h2:=R_ x k;have h3:=n_ x hk;rw[h,u_]at h2;omega
 ·rw[j_ (by omega),h_ (by rw[XR];omega),h_ (by rw[XR];omega)]
theorem F6 {k n:Nat}(z:Array Value)(hz:z.size=k):madeCells z (n*k)=esC k n (fun _=>z):=by
 apply B_;intro i;by_cases hi:i<n*k
 ·have hk:0<k:=by
   rcases aO0 k with e|e
   ·rw[e,bK0]at hi;omega
   ·exact e
  rw[PC (fun _=>hz) i hi];unfold madeCells
  have:i%k<z.size:=by rw[hz];exact n_ _ hk
  simp[hi,hz];rw[getElem!_pos z (i%k) this,W_ this]
 ·rw[h_ (by rw[fE0];omega),h_ (by rw[XR];omega)]
structure ElsAt (k:Nat)(w:World)(ab:Option Addr)(n:Nat)(C:Nat->Array Value)(gb ob:Nat)(bcs:Array Value)(tb:TypeId):Prop where
 at':n=0∨(ab=some ⟨gb,ob,none⟩/\WG w gb bcs tb/\ ∀i,i<n-> ∀j v,(C i).toList[j]?=some v->bcs[ob+i*k+j]?=some v)
section
variable {k:Nat}{w w2:World}{ab:Option Addr}{n:Nat}{C D:Nat->Array Value}{gb ob:Nat}{bcs:Array Value}{tb:TypeId}
theorem ElsAt.below (h:ElsAt k w ab n C gb ob bcs tb)(hb:Below w.heap.size w w2):ElsAt k w2 ab n C gb ob bcs tb:=
 ⟨h.at'.imp id fun⟨h1,h2,h3⟩=>⟨h1,h2.belowAll hb,h3⟩⟩
theorem ElsAt.belowAll (h:ElsAt k w ab n C gb ob bcs tb)(hb:Below w.heap.size w w2):ElsAt k w2 ab n C gb ob bcs tb:=h.below hb
theorem ElsAt.take (h:ElsAt k w ab n C gb ob bcs tb){m:Nat}(hm:m<=n):ElsAt k w ab m C gb ob bcs tb:=by
 refine⟨?_⟩;rcases h.at' with h0|⟨h1,h2,h3⟩
 ·exact .inl (by omega)
 ·exact .inr ⟨h1,h2,fun i hi=>h3 i (by omega)⟩
theorem ElsAt.congr (h:ElsAt k w ab n C gb ob bcs tb)(he: ∀i,i<n->C i=D i):ElsAt k w ab n D gb ob bcs tb:=
 ⟨h.at'.imp id fun⟨h1,h2,h3⟩=>⟨h1,h2,fun i hi=>by rw[<-he i hi];exact h3 i hi⟩⟩
theorem ElsAt.drop (h:ElsAt k w (some ⟨gb,ob,none⟩) n C gb ob bcs tb){m:Nat}(hm:m<=n):ElsAt k w (some ⟨gb,ob+m*k,none⟩) (n-m) (fun i=>C (m+i)) gb (ob+m*k) bcs tb:=by
 refine⟨?_⟩;rcases h.at' with h0|⟨h1,h2,h3⟩
 ·exact .inl (by omega)
 ·refine .inr ⟨rfl,h2,fun i hi j v hv=>?_⟩;have:=h3 (m+i) (by omega) j v hv;rw[bD0]at this;rw[show ob+m*k+i*k+j=ob+(m*k+i*k)+j by omega];exact this
def V4 (k:Nat)(e:TypeId)(w:World)(base:Nat)(v:Value)(n:Nat)(C:Nat->Array Value):Prop:=w.ownsRow base e k v n (esC k n C).toList
theorem Th (e:TypeId)(w:World)(base:Nat)(C:Nat->Array Value):V4 k e w base (.slice none 0 0) 0 C:=by
 have h:(esC k 0 C).toList=[]:=by
  apply aZ0;rw[D_,XR,cD0]
 unfold V4;rw[h];exact gQ0 w base _ _
variable {e:TypeId}{S:List Nat}{bs:Nat}{v:Value}
theorem V4.on (h:V4 k e w bs v n C)(hk:Kept S w w2)(hS: ∀b,v.ownBlock=some b->b∉S):V4 k e w2 bs v n C:=PA h hk hS
theorem V4.new (h:V4 k e w bs v n C){g:Nat}(hg:w.heap.size<=g):v.ownBlock≠some g:=T5 h hg
theorem V4.low (h:V4 k e w bs v n C){g:Nat}(hg:g<bs):v.ownBlock≠some g:=OU h hg
theorem V4.base (h:V4 k e w bs v n C): ∀g∈v.ownBlock.toList,bs<=g:=R5 h
theorem Uv (hC: ∀i,(C i).size=k)(h:V4 k e w bs v n C): ∃ab c gb cur,v= .slice ab n c/\n<=c/\ElsAt k w ab n C gb 0 cur e:=by
 rcases h.2 with ⟨rfl,rfl⟩|⟨g,cap,cur,rfl,_,hg,hnc,_,hcs,htk⟩
 ·exact⟨none,0,0,#[],rfl,e_ _,⟨.inl rfl⟩⟩
 ·refine⟨_,cap,g,cur,rfl,hnc,⟨.inr ⟨rfl,Row.r hg,fun i hi j v hv=>?_⟩⟩⟩
  have hj:j<k:=by
   rw[k_]at hv;have:=(T_.1 hv).1;rw[hC]at this;exact this
  have hl:i*k+j<n*k:=l_ (Nat.add_lt_add_left hj _) (by rw[<-fL0];exact y_ k hi);refine T6 htk (0+i*k+j) v (by omega) ?_;have:=Tg hC i hi (i*k) rfl j v hv;rw[A_];exact this
end
section
variable {P:Program}{ops:Array Oper}{Q:Exit->Act->World->Prop}{rest:List Oper}{o:Oper}{a:Act}{w:World}
theorem OX (hw:Region.wanted o (yielded ops a.tmps)=true)(s x:Operand)(t:TypeId)(ho:o.op= .call {callee:=.builtin .append,args:=#[s,x],argTypes:=#[t,t]})
  (base:Nat)(e:TypeId)(i:TypeInfo)(z:Value)(k bytes:Nat)(ht:P.underlying t=some (.slice e))(hi:P.info? e=some i)(hz:i.zero=some z)(hsize:i.size=k)(hby:i.bytes=bytes)(hzs:z.cells.size=k)(hk:0<k)(hby2:bytes<=1000)
  (v:Value)(n:Nat)(C:Nat->Array Value)(hC: ∀i,(C i).size=k)(hs:a.eval s=v)(hown:V4 k e w base v n C)(gx c:Nat)(hx:a.eval x= .slice (some ⟨gx,0,none⟩) 1 c){tx:TypeId}(rx:Row w gx (C n) tx)(h1:(C n).all (·.oneCell')=true)
  (hn:n<=1000000)(hbase:base<=w.heap.size)
  (h: ∀v' w',V4 k e w' base v' (n+1) C->Kept v.ownBlock.toList w w'->(v'.ownBlock=v.ownBlock∨v'.ownBlock=some w.heap.size)->PW P ops Q rest (a.put o.dst v') w'):PW P ops Q (o::rest) a w:=by
 refine OS hw s x t ho base e i z k bytes ht hi hz hsize hby hzs hk v n _ hs hown gx c hx rx (hC n) h1 (by unfold maxLen;omega) ?_ hbase fun v' w' h1 h2 h3=>h v' w' ?_ h2 h3
 ·exact f_ (aL0 (show n+1<=1000001 by omega) hby2) (by decide)
 ·rw[F5 hC]at h1;exact h1
end
def shC (i:Int)(y:Nat):Array Value:=#[.int .i64 i]++Zb y
def snB (Z:Nat->Int):Nat->Int->Bool
 |0,_=>false
 |k+1,v=>snB Z k v||decide (Z k=v)
def apB (least:Int)(Z:Nat->Int):Nat->Bool
 |0=>true
 |k+1=>apB least Z k&&(decide (least<=Z k)&&(decide (Z k<=7)&& !(snB Z k (Z k))))
theorem OY (Z:Nat->Int)(v:Int): ∀k,snB Z k v=true↔ ∃j,j<k/\Z j=v
 |0=>⟨fun h=>(by cases h),fun⟨j,hj,_⟩=>absurd hj (by omega)⟩
 |k+1=>by
  show(snB Z k v||decide (Z k=v))=true↔_
  rw[bQ0,OY Z v k,Y_];constructor
  ·rintro(⟨j,hj,e⟩|e)
   ·exact⟨j,by omega,e⟩
   ·exact⟨k,by omega,e⟩
  ·rintro⟨j,hj,e⟩;by_cases h:j=k
   ·exact .inr (h▸e)
   ·exact .inl ⟨j,by omega,e⟩
theorem Mb (least:Int)(Z:Nat->Int)(k:Nat):apB least Z (k+1)=true↔apB least Z k=true/\least<=Z k/\Z k<=7/\snB Z k (Z k)=false:=by
 show(apB least Z k&&(decide (least<=Z k)&&(decide (Z k<=7)&& !(snB Z k (Z k)))))=true↔_
 simp
theorem Mc {least:Int}{Z:Nat->Int}{k:Nat}(h:apB least Z k=false): ∀n,k<=n->apB least Z n=false
 |0,hn=>by
  obtain rfl:k=0:=by omega
  exact h
 |n+1,hn=>by
  by_cases e:k=n+1
  ·rw[<-e];exact h
  ·show(apB least Z n&&_)=false
   rw[Mc h n (by omega),N_]
theorem OZ (least:Int)(Z:Nat->Int): ∀n,apB least Z n=true↔(∀k,k<n->least<=Z k/\Z k<=7)/\ ∀j k,j<k->k<n->Z j≠Z k
 |0=>⟨fun _=>⟨fun k hk=>absurd hk (by omega),fun j k _ hk=>absurd hk (by omega)⟩,fun _=>rfl⟩
 |n+1=>by
  rw[Mb,OZ least Z n];constructor
  ·rintro⟨⟨h1,h2⟩,h3,h4,h5⟩;refine⟨fun k hk=>?_,fun j k hj hk=>?_⟩
   ·by_cases e:k=n
    ·subst e;exact⟨h3,h4⟩
    ·exact h1 k (by omega)
   ·by_cases e:k=n
    ·subst e;intro e2;rw[(OY Z (Z k) k).2 ⟨j,hj,e2⟩]at h5;cases h5
    ·exact h2 j k hj (by omega)
  ·rintro⟨h1,h2⟩;refine⟨⟨fun k hk=>h1 k (by omega),fun j k hj hk=>h2 j k hj (by omega)⟩,(h1 n (by omega)).1,(h1 n (by omega)).2,?_⟩
   cases h:snB Z n (Z n)with
   |false=>rfl
   |true=>
    obtain⟨j,hj,e⟩:=(OY Z (Z n) n).1 h;exact absurd e (h2 j n hj (by omega))
def cnB (f:Nat->Bool):Nat->Nat
 |0=>0
 |m+1=>cnB f m+if f m then 1 else 0
def vsC (n:Nat)(S:Nat->Value):Array Value:=Array.ofFn (n:=n) fun i=>S i
theorem Xk (n:Nat)(S:Nat->Value):(vsC n S).size=n:=by simp[vsC]
theorem XJ {n:Nat}(S:Nat->Value){i:Nat}(h:i<n):(vsC n S)[i]?=some (S i):=by simp[vsC,h]
theorem YY {n:Nat}{S T:Nat->Value}(h: ∀i,i<n->S i=T i):vsC n S=vsC n T:=by
 apply B_;intro i;by_cases hi:i<n
 ·rw[XJ S hi,XJ T hi,h i hi]
 ·rw[h_ (by rw[Xk];omega),h_ (by rw[Xk];omega)]
theorem VX {n:Nat}{S T:Nat->Value}{i:Nat}{v:Value}(hi:i<n)(hv:T i=v)(h: ∀j,j<n->j≠i->T j=S j):(vsC n S).setIfInBounds i v=vsC n T:=by
 apply B_;intro j;rw[aI0];by_cases hj:j<n
 ·rw[XJ S hj,XJ T hj];by_cases e:i=j
  ·subst e;rw[i_ rfl,i_ (by rw[Xk];exact hj),hv]
  ·rw[j_ e,h j hj (fun x=>e x.symm)]
 ·rw[h_ (show(vsC n T).size<=j by rw[Xk];omega)];by_cases e:i=j
  ·omega
  ·rw[j_ e,h_ (by rw[Xk];omega)]
theorem Sd (n:Nat)(v:Value)(hv:v.cells=#[v]):madeCells v.cells (n*1)=vsC n (fun _=>v):=by
 apply B_;intro i;by_cases hi:i<n
 ·rw[XJ _ hi,hv];unfold madeCells;simp[hi,aW0]
 ·rw[h_ (by rw[fE0];omega),h_ (by rw[Xk];omega)]
structure FamAt (w:World)(base n:Nat)(R:Nat->Nat)(V:Nat->Nat->Nat)(m:Nat):Prop where
 row: ∀j,j<m->Row w (R j) (nsC n (V j)) 57
 dis: ∀i j,i<m->j<m->R i=R j->i=j
 low: ∀j,j<m->base<=R j
section
variable {w w2:World}{base n m:Nat}{R:Nat->Nat}{V V':Nat->Nat->Nat}
theorem FamAt.below (h:FamAt w base n R V m)(hb:Below w.heap.size w w2):FamAt w2 base n R V m:=
 ⟨fun j hj=>(h.row j hj).belowAll hb,h.dis,h.low⟩
theorem FamAt.on (h:FamAt w base n R V m){S:List Nat}(k:Kept S w w2)(hS: ∀j,j<m->R j∉S):FamAt w2 base n R V m:=
 ⟨fun j hj=>k.row (h.row j hj) (hS j hj),h.dis,h.low⟩
theorem FamAt.congr (h:FamAt w base n R V m)(he: ∀j,j<m-> ∀k,k<n->V j k=V' j k):FamAt w base n R V' m:=
 ⟨fun j hj=>by rw[<-YC n (V j) (V' j) (he j hj)];exact h.row j hj,h.dis,h.low⟩
theorem FamAt.lt (h:FamAt w base n R V m){j:Nat}(hj:j<m):R j<w.heap.size:=(h.row j hj).lt
theorem FamAt.put (h:FamAt w base n R V m){j:Nat}(hj:j<m)(k:Kept [R j] w w2)(r:Row w2 (R j) (nsC n (V' j)) 57)(he: ∀i,i<m->i≠j->V' i=V i):FamAt w2 base n R V' m:=by
 refine⟨fun i hi=>?_,h.dis,h.low⟩;by_cases e:i=j
 ·rw[e];exact r
 ·rw[he i hi e]
  exact k.row (h.row i hi) (by
   intro hm
   exact e (h.dis i j hi hj (by simpa using hm)))
def upR (R:Nat->Nat)(m g:Nat):Nat->Nat:=fun j=>if j=m then g else R j
theorem Xm (R:Nat->Nat)(m g:Nat):upR R m g m=g:=i_ rfl
theorem Xe (R:Nat->Nat){m g j:Nat}(h:j<m):upR R m g j=R j:=j_ (by omega)
theorem FamAt.add (h:FamAt w base n R V m){g:Nat}(hg: ∀j,j<m->R j≠g)(hb:base<=g)(r:Row w g (nsC n (V m)) 57):FamAt w base n (upR R m g) V (m+1):=by
 refine⟨fun j hj=>?_,fun i j hi hj e=>?_,fun j hj=>?_⟩
 ·by_cases e:j=m
  ·subst e;rw[Xm];exact r
  ·rw[Xe R (show j<m by omega)];exact h.row j (by omega)
 ·by_cases e1:i=m
  ·by_cases e2:j=m
   ·omega
   ·rw[e1,Xm,Xe R (show j<m by omega)]at e;exact absurd e.symm (hg j (by omega))
  ·by_cases e2:j=m
   ·rw[e2,Xm,Xe R (show i<m by omega)]at e;exact absurd e (hg i (by omega))
   ·rw[Xe R (show i<m by omega),Xe R (show j<m by omega)]at e;exact h.dis i j (by omega) (by omega) e
 ·by_cases e:j=m
  ·subst e;rw[Xm];exact hb
  ·rw[Xe R (show j<m by omega)];exact h.low j (by omega)
theorem Se (w:World)(base n:Nat)(R:Nat->Nat)(V:Nat->Nat->Nat):FamAt w base n R V 0:=
 ⟨fun j hj=>absurd hj (by omega),fun i j hi=>absurd hi (by omega),fun j hj=>absurd hj (by omega)⟩
end
theorem It:(Tryz.prog.info? 111).map (fun i=>(i.zero,i.size))=some (some (.agg (shC 0 0)),5):=by kernel_rfl
theorem Ad (w:World):(zeroValue 111).run Tryz.prog w= .ok (.agg (shC 0 0)) w:=(V_ It).1 w
theorem Iu:(Tryz.prog.info? 111).map (·.size)=some 5:=(V_ It).2
theorem yO (i:Int)(y:Nat):(shC i y).all (·.oneCell')=true:=by simp[shC,Zb,Value.oneCell']
theorem ug (i:Int)(y:Nat): ∀j v,(Zb y).toList[j]?=some v->(shC i y)[1+j]?=some v:=U1 rfl rfl rfl rfl
theorem wH {bcs:Array Value}{off:Nat}{i:Int}{y:Nat}(h: ∀j v,(shC i y).toList[j]?=some v->bcs[off+j]?=some v): ∀j v,(Zb y).toList[j]?=some v->bcs[off+1+j]?=some v:=fun j v hv=>by
 rw[iN0];refine h (1+j) v ?_;rw[k_];exact ug i y j v hv
theorem Qa (i:Int)(y:Nat):Tryz.prog.built 111 [(0,.int .i64 i),(1,.agg (Zb y))]=some (shC i y):=by
 unfold shC Zb;generalize lm y 0=a;generalize lm y 1=b;generalize lm y 2=c;generalize lm y 3=d
 kernel_rfl
theorem Ae:(Tryz.prog.info? 173).map (fun i=>(i.zero,i.size))=some (some (.agg (vsC 8 fun _=>.bool false)),8):=by kernel_rfl
theorem Af (w:World):(zeroValue 173).run Tryz.prog w= .ok (.agg (vsC 8 fun _=>.bool false)) w:=(V_ Ae).1 w
theorem LE:(Tryz.prog.info? 4).map (·.size)=some 1:=by kernel_rfl
