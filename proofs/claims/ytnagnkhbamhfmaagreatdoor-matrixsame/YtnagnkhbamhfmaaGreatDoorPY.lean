import Derived.Test.YtnagnkhbamhfmaaGreatDoorPyFun
import Derived.OwnWalk
set_option maxRecDepth 100000
set_option maxHeartbeats 8000000
namespace Go.Proofs.YtnagnkhbamhfmaaGreatDoor
set_option linter.all false
open Go.RowKit
open Go.Proofs.Tryz
section
variable {Q:Nat}[NeZero Q]
def PlA (w:World)(v:Value)(L:List (Fin Q)):Prop:= ∃ab n c F gb ob bcs tb,v= .slice ab n c/\n<=1000/\NatsAt w ab n F gb ob bcs tb/\fl n F=L
def OK (w:World)(v:Value)(L:List (Fin Q)):Prop:= ∃ab c gb ob bcs tb,v= .slice ab L.length c/\NatsAt w ab L.length (fun i=>(pco L i).val) gb ob bcs tb
theorem PlA.below {w w':World}{v:Value}{L:List (Fin Q)}(h:PlA w v L)(hb:Below w.heap.size w w'):PlA w' v L:=by
 obtain⟨ab,n,c,F,gb,ob,bcs,tb,h1,h2,h3,h4⟩:=h;exact⟨ab,n,c,F,gb,ob,bcs,tb,h1,h2,h3.below hb,h4⟩
theorem OK.below {w w':World}{v:Value}{L:List (Fin Q)}(h:OK w v L)(hb:Below w.heap.size w w'):OK w' v L:=by
 obtain⟨ab,c,gb,ob,bcs,tb,h1,h3⟩:=h;exact⟨ab,c,gb,ob,bcs,tb,h1,h3.below hb⟩
theorem OK.arg {w:World}{v:Value}{L:List (Fin Q)}(h:OK w v L)(hl:L.length<=1000):PlA w v L:=by
 obtain⟨ab,c,gb,ob,bcs,tb,h1,h3⟩:=h;exact⟨ab,_,c,_,gb,ob,bcs,tb,h1,hl,h3,Bq L⟩
theorem NatsAt.pl {w:World}{ab:Option Addr}{n c:Nat}{F:Nat->Nat}{gb ob:Nat}{bcs:Array Value}{tb:TypeId}(h:NatsAt w ab n F gb ob bcs tb)(hn:n<=1000):PlA w (.slice ab n c) (fl n F:List (Fin Q)):=
 ⟨ab,n,c,F,gb,ob,bcs,tb,rfl,hn,h,rfl⟩
theorem Ha (w:World):OK w (.slice none 0 0) ([]:List (Fin Q)):=⟨none,0,0,0,#[],0,rfl,⟨.inl rfl,fun i hi=>by simp at hi⟩⟩
theorem Ds {w:World}{g n:Nat}{F:Nat->Nat}{L:List (Fin Q)}(r:Row w g (nsC n F) 57)(hQ:Q<2^256)(hF: ∀i,i<n->F i<Q)(hL: ∀i,pco (fl n F:List (Fin Q)) i=pco L i):OK w (.slice (some ⟨g,0,none⟩) (yTn F n) n) (Yg L):=by
 obtain⟨h1,h2⟩:=IY n F L hF hL;have h:=(Yh r fun i hi=>Nat.lt_trans (hF i hi) hQ).take (Tf F n);rw[h1]at h h2;rw[h1];exact⟨_,_,_,_,_,_,rfl,h.congr fun i hi=>h2 i hi⟩
section
variable {g gr gf P G:Nat}{w:World}
theorem ya (va vb:Value)(La Lb:List (Fin Q))(q:FdQ Q)(h:GrpAt w g gr gf P Q G)(ha:PlA w va La)(hb:PlA w vb Lb):
  Calls prog 139 #[.pointer (some ⟨g,0,none⟩),va,vb] w fun e w'=> ∃v,e= .returned v/\OK w' v (VE La Lb)/\Below w.heap.size w w':=by
 obtain⟨ab,n,c,F,gb,ob,bcs,tb,rfl,hn,hna,rfl⟩:=ha;obtain⟨ae,m,ce,E,ge,oe,ecs,te,rfl,hm,hnb,rfl⟩:=hb;refine(I9 _ ab ae n c m ce F E (fO Q) gb ob ge oe bcs ecs tb te w hn hm hna hnb (h.fa q)).mono ?_;rintro e w' ⟨gx,rfl,_,r,hb⟩
 have ea:(fl (yTn (yTm (fO Q) F) n) (yTm (fO Q) F):List (Fin Q))=Yg (fl n F):=by
  have h1:=IY n (yTm (fO Q) F) (fl n F:List (Fin Q)) (fun i _=>Kt F i) (fun i=>by rw[Ks]);exact Kv _ _ _ h1.1 h1.2
 have eb:(fl (yTn (yTm (fO Q) E) m) (yTm (fO Q) E):List (Fin Q))=Yg (fl m E):=by
  have h1:=IY m (yTm (fO Q) E) (fl m E:List (Fin Q)) (fun i _=>Kt E i) (fun i=>by rw[Ks]);exact Kv _ _ _ h1.1 h1.2
 have hp:=Ds (L:=VE (fl n F) (fl m E)) r q.m (fun i _=>Bv _ _ _ _ _) fun i=>by rw[Bx,ea,eb,NP]
 rw[U7]at hp;exact⟨_,rfl,hp,hb⟩
theorem Hb (va:Value)(La:List (Fin Q))(x:Nat)(hx:x<2^256)(q:FdQ Q)(h:GrpAt w g gr gf P Q G)(ha:PlA w va La):
  Calls prog 65 #[.pointer (some ⟨g,0,none⟩),va,.agg (Zd x)] w (Rt (.agg (Zd (pev (fi x) La).val)) w):=by
 obtain⟨ab,n,c,F,gb,ob,bcs,tb,rfl,hn,hna,rfl⟩:=ha;have:=KH (some ⟨g,0,none⟩) ab n c x F (fO Q) gb ob bcs tb w (by omega) hx hna (h.fa q);rw[Bz]at this;exact this
end
end
theorem Fr {P:Program}{o:Oper}{ρ:Operand->Value}(t:TypeId)(x lo hi:Operand)(ho:o.op= .slice t x (some lo) (some hi) none)(hu:P.underlying t=some (.slice (P.elem t)))(z:Nat)(hz: ∀w,(sizeOf (P.elem t)).run P w= .ok z w)(g off n c l h:Nat)(hx:ρ x= .slice (some ⟨g,off,none⟩) n c)(hl:ρ lo= .int .i64 l)(hh:ρ hi= .int .i64 h)(h1:l<=h)(h2:h<=c)(h3:l<c)(w:World):
  (execOp ρ o).run P w= .ok (.value (.slice (some ⟨g,off+l*z,none⟩) (h-l) (c-l))) w:=by
 have hr:(Instr.sliceAt t (.slice (some ⟨g,off,none⟩) n c) (some (.int .i64 l)) (some (.int .i64 h)) none).run P w= .ok (.slice (some ⟨g,off+l*z,none⟩) (h-l) (c-l)) w:=by
  rw[run_sliceAt_slice w t _ _ _ _ hu,run_slice_lh w t _ n c hu .i64 .i64 l h (by omega) (by omega) (by omega),hz,Result.andThen_ok,Int.toNat_natCast,Int.toNat_natCast];unfold sliced;rw[if_neg (by omega)];simp[Addr.add]
 unfold execOp;simp only[ho,hx,hl,hh,Option.map_some,Option.map_none,Sem.run_bind,hr,Result.andThen_ok];rfl
def yTk (q:Nat)(lo:Nat)(B:Nat->Nat)(c:Nat)(R:Nat->Nat)(k i:Nat):Nat:=if lo<=i/\i<lo+k then sbN (R i) (B (i-lo)*c%q) q else R i
section
variable {Q:Nat}[NeZero Q]
end
theorem Hc (v f:Option Addr)(P Q G:Nat)(r:Option Addr)(w:World)(h:Pb w v P Q G r f):
  Calls prog 137 #[.pointer v] w fun e w'=>e= .returned (.bool (!f.isNone))/\Below w.heap.size w w':=by
 have hf:=fun w' (hb:Below w.heap.size w w')=>Yz v P Q G r f w' (h.below hb)
 go_enter func137,ntmps137
 have sb:=YN w;iterate 2 go_step
 refine rp ?_;refine p_v (.bool false) (fun _=>rfl) (Zb ?_);simp only[pv];iterate 3 go_step
 refine rp ?_;refine p_m ?_;simp only[pv];refine p_c 98 func98 #[.pointer v] (hf _ sb) ?_;intro z1001 k;simp only[pv];replace sb:=kk sb k;clear k;refine p_v _ (YC _ _ _ _ rfl f rfl rfl WF) ?_;refine p_a (Zb ?_);simp only[pv];go_wp2;go_ret;exact⟨rfl,sb⟩
theorem Tm:prog.built 57 [(0,.int .u64 1)]=some (Zd 1):=by kernel_rfl
def ivF {Q:Nat}[NeZero Q](x:Fin Q):Fin Q:=fi (Sy x.val Q)
theorem Fs {Q:Nat}[NeZero Q](q:FdQ Q)(a:Fin Q)(h:a≠0):a*ivF a=1:=by
 have h1:a.val%Q≠0:=by
  rw[Nat.mod_eq_of_lt a.isLt];exact fun e=>h ((Br a).1 e)
 have h2:=A6 q.pr h1;have h3:(fi (a.val*Sy a.val Q):Fin Q)=fi 1:=(IX _ _).2 (by rw[h2,Nat.mod_eq_of_lt (by have:=q.pr.1;omega)]);rw[Te,NN]at h3;exact h3
theorem KI {Q:Nat}[NeZero Q]{w:World}{g A:Nat}(r:Row w g (Zd A) 57)(hA:A<2^256):PlA w (.slice (some ⟨g,0,none⟩) 1 1) [(fi A:Fin Q)]:=by
 exact(Y0 r hA).pl (by decide)
theorem Dt {Q:Nat}[NeZero Q]{w:World}{g A B:Nat}(r:Row w g (Zd A++Zd B) 57)(hA:A<2^256)(hB:B<2^256):PlA w (.slice (some ⟨g,0,none⟩) 2 2) [(fi A:Fin Q),fi B]:=by
 exact(Oq r hA hB).pl (by decide)
def esC (k n:Nat)(C:Nat->Array Value):Array Value:=Array.ofFn (n:=n*k) fun i=>((C (i/k))[i.val%k]?).getD undef
theorem Xy (k n:Nat)(C:Nat->Array Value):(esC k n C).size=n*k:=by simp[esC]
theorem Tn {k n:Nat}{C:Nat->Array Value}(hC: ∀i,(C i).size=k)(i j:Nat)(hi:i<n)(hj:j<k):(esC k n C)[i*k+j]?=(C i)[j]?:=by
 have h1:i*k+j<n*k:=Nat.lt_of_lt_of_le (Nat.add_lt_add_left hj _) (by rw[<-Nat.succ_mul];exact Nat.mul_le_mul_right k hi);have h2:(i*k+j)/k=i:=by rw[Nat.mul_comm,Nat.mul_add_div (by omega),Nat.div_eq_of_lt hj,Nat.add_zero]
 have h3:(i*k+j)%k=j:=by rw[Nat.mul_comm,Nat.mul_add_mod,Nat.mod_eq_of_lt hj]
 have h4:j<(C i).size:=by rw[hC];exact hj
 simp[esC,h1,h2,h3,h4]
theorem WS {k n:Nat}{C:Nat->Array Value}(hC: ∀i,(C i).size=k)(i:Nat)(hi:i<n)(off:Nat)(ho:off=i*k): ∀j v,(C i).toList[j]?=some v->(esC k n C)[off+j]?=some v:=by
 intro j v hv;subst ho;rw[Array.getElem?_toList]at hv
 have hj:j<k:=by
  have:=(Array.getElem?_eq_some_iff.1 hv).1;rw[hC]at this;exact this
 rw[Tn hC i j hi hj,hv]
theorem S6 {k n i:Nat}(h:i<n*k):i/k<n:=Nat.div_lt_of_lt_mul (by rw[Nat.mul_comm];exact h)
theorem Qo {k n:Nat}{C:Nat->Array Value}(hC: ∀i,(C i).size=k)(i:Nat)(h:i<n*k):(esC k n C)[i]?=(C (i/k))[i%k]?:=by
 have hk:0<k:=by
  rcases Nat.eq_zero_or_pos k with e|e
  ·rw[e,Nat.mul_zero]at h;omega
  ·exact e
 have e:i/k*k+i%k=i:=by rw[Nat.mul_comm];exact Nat.div_add_mod i k
 have:=Tn hC (i/k) (i%k) (S6 h) (Nat.mod_lt _ hk);rw[e]at this;exact this
theorem VL {k n:Nat}{C D:Nat->Array Value}(h: ∀i,i<n->C i=D i):esC k n C=esC k n D:=by
 apply Array.ext_getElem?;intro i;by_cases hi:i<n*k
 ·have:=h (i/k) (S6 hi);simp[esC,hi,this]
 ·rw[Array.getElem?_eq_none (by rw[Xy];omega),Array.getElem?_eq_none (by rw[Xy];omega)]
theorem Hd {k:Nat}{C:Nat->Array Value}(hC: ∀i,(C i).size=k)(n:Nat):(esC k n C).toList++(C n).toList=(esC k (n+1) C).toList:=by
 refine List.ext_getElem? fun j=>?_
 rw[List.getElem?_append,Array.length_toList,Xy,Array.getElem?_toList,Array.getElem?_toList,Array.getElem?_toList];have hs:(n+1)*k=n*k+k:=Nat.succ_mul n k;by_cases h:j<n*k
 ·rw[if_pos h,Qo hC j h,Qo hC j (by omega)]
 ·rw[if_neg h];by_cases h2:j<n*k+k
  ·obtain⟨d,rfl⟩: ∃d,j=n*k+d:=⟨j-n*k,by omega⟩
   rw[Tn hC n d (by omega) (by omega),Nat.add_sub_cancel_left]
  ·rw[Array.getElem?_eq_none (by rw[hC];omega),Array.getElem?_eq_none (by rw[Xy];omega)]
theorem Du {k n:Nat}{C D:Nat->Array Value}(hC: ∀i,(C i).size=k)(hD: ∀i,(D i).size=k)(i:Nat)(hi:i<n)(off:Nat)(ho:off=i*k)(hd: ∀j,j<n->j≠i->D j=C j):TQ (esC k n C) off (D i).toList=esC k n D:=by
 subst ho
 have h1:i*k+k<=n*k:=by rw[<-Nat.succ_mul];exact Nat.mul_le_mul_right k hi
 apply Array.ext_getElem?;intro x;rw[Vu _ _ _ _ (by rw[Xy,Array.length_toList,hD];exact h1),Array.length_toList,hD];by_cases hx:x<n*k
 ·by_cases e:i*k<=x/\x<i*k+k
  ·rw[if_pos e];obtain⟨d,rfl⟩: ∃d,x=i*k+d:=⟨x-i*k,by omega⟩
   rw[Nat.add_sub_cancel_left,Tn hD i d hi (by omega),Array.getElem?_toList]
  ·rw[if_neg e,Qo hC x hx,Qo hD x hx,hd (x/k) (S6 hx) (fun h=>e ?_)]
   have hk:0<k:=by
    rcases Nat.eq_zero_or_pos k with e|e
    ·rw[e,Nat.mul_zero]at hx;omega
    ·exact e
   have h2:=Nat.div_add_mod x k;have h3:=Nat.mod_lt x hk;rw[h,Nat.mul_comm]at h2;omega
 ·rw[if_neg (by omega),Array.getElem?_eq_none (by rw[Xy];omega),Array.getElem?_eq_none (by rw[Xy];omega)]
theorem He {k n:Nat}(z:Array Value)(hz:z.size=k):madeCells z (n*k)=esC k n (fun _=>z):=by
 apply Array.ext_getElem?;intro i;by_cases hi:i<n*k
 ·have hk:0<k:=by
   rcases Nat.eq_zero_or_pos k with e|e
   ·rw[e,Nat.mul_zero]at hi;omega
   ·exact e
  rw[Qo (fun _=>hz) i hi];unfold madeCells
  have:i%k<z.size:=by rw[hz];exact Nat.mod_lt _ hk
  simp[hi,hz];rw[getElem!_pos z (i%k) this,Array.getElem?_eq_getElem this]
 ·rw[Array.getElem?_eq_none (by rw[size_madeCells];omega),Array.getElem?_eq_none (by rw[Xy];omega)]
structure ElsAt (k:Nat)(w:World)(ab:Option Addr)(n:Nat)(C:Nat->Array Value)(gb ob:Nat)(bcs:Array Value)(tb:TypeId):Prop where
 at':n=0∨(ab=some ⟨gb,ob,none⟩/\Wq w gb bcs tb/\ ∀i,i<n-> ∀j v,(C i).toList[j]?=some v->bcs[ob+i*k+j]?=some v)
section
variable {k:Nat}{w w2:World}{ab:Option Addr}{n:Nat}{C D:Nat->Array Value}{gb ob:Nat}{bcs:Array Value}{tb:TypeId}
theorem ElsAt.below (h:ElsAt k w ab n C gb ob bcs tb)(hb:Below w.heap.size w w2):ElsAt k w2 ab n C gb ob bcs tb:=
 ⟨h.at'.imp id fun⟨h1,h2,h3⟩=>⟨h1,h2.belowAll hb,h3⟩⟩
theorem ElsAt.belowAll (h:ElsAt k w ab n C gb ob bcs tb)(hb:Below w.heap.size w w2):ElsAt k w2 ab n C gb ob bcs tb:=h.below hb
theorem ElsAt.take (h:ElsAt k w ab n C gb ob bcs tb){m:Nat}(hm:m<=n):ElsAt k w ab m C gb ob bcs tb:=by
 refine⟨?_⟩;rcases h.at' with h0|⟨h1,h2,h3⟩
 ·exact .inl (by omega)
 ·exact .inr ⟨h1,h2,fun i hi=>h3 i (by omega)⟩
theorem ElsAt.congr (h:ElsAt k w ab n C gb ob bcs tb)(he: ∀i,i<n->C i=D i):ElsAt k w ab n D gb ob bcs tb:=
 ⟨h.at'.imp id fun⟨h1,h2,h3⟩=>⟨h1,h2,fun i hi=>by rw[<-he i hi];exact h3 i hi⟩⟩
theorem ElsAt.drop (h:ElsAt k w (some ⟨gb,ob,none⟩) n C gb ob bcs tb){m:Nat}(hm:m<=n):ElsAt k w (some ⟨gb,ob+m*k,none⟩) (n-m) (fun i=>C (m+i)) gb (ob+m*k) bcs tb:=by
 refine⟨?_⟩;rcases h.at' with h0|⟨h1,h2,h3⟩
 ·exact .inl (by omega)
 ·refine .inr ⟨rfl,h2,fun i hi j v hv=>?_⟩;have:=h3 (m+i) (by omega) j v hv;rw[Nat.add_mul]at this;rw[show ob+m*k+i*k+j=ob+(m*k+i*k)+j by omega];exact this
def Ux (k:Nat)(e:TypeId)(w:World)(base:Nat)(v:Value)(n:Nat)(C:Nat->Array Value):Prop:=w.ownsRow base e k v n (esC k n C).toList
theorem S7 (e:TypeId)(w:World)(base:Nat)(C:Nat->Array Value):Ux k e w base (.slice none 0 0) 0 C:=by
 have h:(esC k 0 C).toList=[]:=by
  apply List.eq_nil_of_length_eq_zero;rw[Array.length_toList,Xy,Nat.zero_mul]
 unfold Ux;rw[h];exact World.ownsRow_nil w base _ _
variable {e:TypeId}{S:List Nat}{bs:Nat}{v:Value}
theorem Ux.on (h:Ux k e w bs v n C)(hk:Kept S w w2)(hS: ∀b,v.ownBlock=some b->b∉S):Ux k e w2 bs v n C:=OH h hk hS
theorem Ux.new (h:Ux k e w bs v n C){g:Nat}(hg:w.heap.size<=g):v.ownBlock≠some g:=SZ h hg
theorem Ux.low (h:Ux k e w bs v n C){g:Nat}(hg:g<bs):v.ownBlock≠some g:=Pp h hg
theorem Ux.base (h:Ux k e w bs v n C): ∀g∈v.ownBlock.toList,bs<=g:=S0 h
theorem Uy (hC: ∀i,(C i).size=k)(h:Ux k e w bs v n C): ∃ab c gb cur,v= .slice ab n c/\n<=c/\ElsAt k w ab n C gb 0 cur e:=by
 rcases h.2 with ⟨rfl,rfl⟩|⟨g,cap,cur,rfl,_,hg,hnc,_,hcs,htk⟩
 ·exact⟨none,0,0,#[],rfl,Nat.le_refl _,⟨.inl rfl⟩⟩
 ·refine⟨_,cap,g,cur,rfl,hnc,⟨.inr ⟨rfl,Row.r hg,fun i hi j v hv=>?_⟩⟩⟩
  have hj:j<k:=by
   rw[Array.getElem?_toList]at hv;have:=(Array.getElem?_eq_some_iff.1 hv).1;rw[hC]at this;exact this
  have hl:i*k+j<n*k:=Nat.lt_of_lt_of_le (Nat.add_lt_add_left hj _) (by rw[<-Nat.succ_mul];exact Nat.mul_le_mul_right k hi);refine Qm htk (0+i*k+j) v (by omega) ?_;have:=WS hC i hi (i*k) rfl j v hv;rw[Nat.zero_add];exact this
end
section
variable {P:Program}{ops:Array Oper}{Q:Exit->Act->World->Prop}{rest:List Oper}{o:Oper}{a:Act}{w:World}
theorem Pt (hw:Region.wanted o (yielded ops a.tmps)=true)(s x:Operand)(t:TypeId)(ho:o.op= .call {callee:=.builtin .append,args:=#[s,x],argTypes:=#[t,t]})
  (base:Nat)(e:TypeId)(i:TypeInfo)(z:Value)(k bytes:Nat)(ht:P.underlying t=some (.slice e))(hi:P.info? e=some i)(hz:i.zero=some z)(hsize:i.size=k)(hby:i.bytes=bytes)(hzs:z.cells.size=k)(hk:0<k)(hby2:bytes<=1000)
  (v:Value)(n:Nat)(C:Nat->Array Value)(hC: ∀i,(C i).size=k)(hs:a.eval s=v)(hown:Ux k e w base v n C)(gx c:Nat)(hx:a.eval x= .slice (some ⟨gx,0,none⟩) 1 c){tx:TypeId}(rx:Row w gx (C n) tx)(h1:(C n).all (·.oneCell')=true)
  (hn:n<=1000000)(hbase:base<=w.heap.size)
  (h: ∀v' w',Ux k e w' base v' (n+1) C->Kept v.ownBlock.toList w w'->(v'.ownBlock=v.ownBlock∨v'.ownBlock=some w.heap.size)->PW P ops Q rest (a.put o.dst v') w'):PW P ops Q (o::rest) a w:=by
 refine KE hw s x t ho base e i z k bytes ht hi hz hsize hby hzs hk v n _ hs hown gx c hx rx (hC n) h1 (by unfold maxLen;omega) ?_ hbase fun v' w' h1 h2 h3=>h v' w' ?_ h2 h3
 ·exact Nat.le_trans (Nat.mul_le_mul (show n+1<=1000001 by omega) hby2) (by decide)
 ·rw[Hd hC]at h1;exact h1
end
def shC (i:Int)(y:Nat):Array Value:=#[.int .i64 i]++Zd y
def snB (Z:Nat->Int):Nat->Int->Bool
 |0,_=>false
 |k+1,v=>snB Z k v||decide (Z k=v)
def apB (least:Int)(Z:Nat->Int):Nat->Bool
 |0=>true
 |k+1=>apB least Z k&&(decide (least<=Z k)&&(decide (Z k<=7)&& !(snB Z k (Z k))))
theorem Pu (Z:Nat->Int)(v:Int): ∀k,snB Z k v=true↔ ∃j,j<k/\Z j=v
 |0=>⟨fun h=>(by cases h),fun⟨j,hj,_⟩=>absurd hj (by omega)⟩
 |k+1=>by
  show(snB Z k v||decide (Z k=v))=true↔_
  rw[Bool.or_eq_true,Pu Z v k,decide_eq_true_iff];constructor
  ·rintro(⟨j,hj,e⟩|e)
   ·exact⟨j,by omega,e⟩
   ·exact⟨k,by omega,e⟩
  ·rintro⟨j,hj,e⟩;by_cases h:j=k
   ·exact .inr (h▸e)
   ·exact .inl ⟨j,by omega,e⟩
theorem OL (least:Int)(Z:Nat->Int)(k:Nat):apB least Z (k+1)=true↔apB least Z k=true/\least<=Z k/\Z k<=7/\snB Z k (Z k)=false:=by
 show(apB least Z k&&(decide (least<=Z k)&&(decide (Z k<=7)&& !(snB Z k (Z k)))))=true↔_
 simp
theorem OM {least:Int}{Z:Nat->Int}{k:Nat}(h:apB least Z k=false): ∀n,k<=n->apB least Z n=false
 |0,hn=>by
  obtain rfl:k=0:=by omega
  exact h
 |n+1,hn=>by
  by_cases e:k=n+1
  ·rw[<-e];exact h
  ·show(apB least Z n&&_)=false
   rw[OM h n (by omega),Bool.false_and]
theorem Pv (least:Int)(Z:Nat->Int): ∀n,apB least Z n=true↔(∀k,k<n->least<=Z k/\Z k<=7)/\ ∀j k,j<k->k<n->Z j≠Z k
 |0=>⟨fun _=>⟨fun k hk=>absurd hk (by omega),fun j k _ hk=>absurd hk (by omega)⟩,fun _=>rfl⟩
 |n+1=>by
  rw[OL,Pv least Z n];constructor
  ·rintro⟨⟨h1,h2⟩,h3,h4,h5⟩;refine⟨fun k hk=>?_,fun j k hj hk=>?_⟩
   ·by_cases e:k=n
    ·subst e;exact⟨h3,h4⟩
    ·exact h1 k (by omega)
   ·by_cases e:k=n
    ·subst e;intro e2;rw[(Pu Z (Z k) k).2 ⟨j,hj,e2⟩]at h5;cases h5
    ·exact h2 j k hj (by omega)
  ·rintro⟨h1,h2⟩;refine⟨⟨fun k hk=>h1 k (by omega),fun j k hj hk=>h2 j k hj (by omega)⟩,(h1 n (by omega)).1,(h1 n (by omega)).2,?_⟩
   cases h:snB Z n (Z n)with
   |false=>rfl
   |true=>
    obtain⟨j,hj,e⟩:=(Pu Z (Z n) n).1 h;exact absurd e (h2 j n hj (by omega))
def cnB (f:Nat->Bool):Nat->Nat
 |0=>0
 |m+1=>cnB f m+if f m then 1 else 0
def vsC (n:Nat)(S:Nat->Value):Array Value:=Array.ofFn (n:=n) fun i=>S i
theorem Y4 (n:Nat)(S:Nat->Value):(vsC n S).size=n:=by simp[vsC]
theorem Xi {n:Nat}(S:Nat->Value){i:Nat}(h:i<n):(vsC n S)[i]?=some (S i):=by simp[vsC,h]
theorem YG {n:Nat}{S T:Nat->Value}(h: ∀i,i<n->S i=T i):vsC n S=vsC n T:=by
 apply Array.ext_getElem?;intro i;by_cases hi:i<n
 ·rw[Xi S hi,Xi T hi,h i hi]
 ·rw[Array.getElem?_eq_none (by rw[Y4];omega),Array.getElem?_eq_none (by rw[Y4];omega)]
theorem Vh {n:Nat}{S T:Nat->Value}{i:Nat}{v:Value}(hi:i<n)(hv:T i=v)(h: ∀j,j<n->j≠i->T j=S j):(vsC n S).setIfInBounds i v=vsC n T:=by
 apply Array.ext_getElem?;intro j;rw[Array.getElem?_setIfInBounds];by_cases hj:j<n
 ·rw[Xi S hj,Xi T hj];by_cases e:i=j
  ·subst e;rw[if_pos rfl,if_pos (by rw[Y4];exact hj),hv]
  ·rw[if_neg e,h j hj (fun x=>e x.symm)]
 ·rw[Array.getElem?_eq_none (show(vsC n T).size<=j by rw[Y4];omega)];by_cases e:i=j
  ·omega
  ·rw[if_neg e,Array.getElem?_eq_none (by rw[Y4];omega)]
theorem To (n:Nat)(v:Value)(hv:v.cells=#[v]):madeCells v.cells (n*1)=vsC n (fun _=>v):=by
 apply Array.ext_getElem?;intro i;by_cases hi:i<n
 ·rw[Xi _ hi,hv];unfold madeCells;simp[hi,Nat.mod_one]
 ·rw[Array.getElem?_eq_none (by rw[size_madeCells];omega),Array.getElem?_eq_none (by rw[Y4];omega)]
structure FamAt (w:World)(base n:Nat)(R:Nat->Nat)(V:Nat->Nat->Nat)(m:Nat):Prop where
 row: ∀j,j<m->Row w (R j) (nsC n (V j)) 57
 dis: ∀i j,i<m->j<m->R i=R j->i=j
 low: ∀j,j<m->base<=R j
section
variable {w w2:World}{base n m:Nat}{R:Nat->Nat}{V V':Nat->Nat->Nat}
theorem FamAt.below (h:FamAt w base n R V m)(hb:Below w.heap.size w w2):FamAt w2 base n R V m:=
 ⟨fun j hj=>(h.row j hj).belowAll hb,h.dis,h.low⟩
theorem FamAt.on (h:FamAt w base n R V m){S:List Nat}(k:Kept S w w2)(hS: ∀j,j<m->R j∉S):FamAt w2 base n R V m:=
 ⟨fun j hj=>k.row (h.row j hj) (hS j hj),h.dis,h.low⟩
theorem FamAt.congr (h:FamAt w base n R V m)(he: ∀j,j<m-> ∀k,k<n->V j k=V' j k):FamAt w base n R V' m:=
 ⟨fun j hj=>by rw[<-Yq n (V j) (V' j) (he j hj)];exact h.row j hj,h.dis,h.low⟩
theorem FamAt.lt (h:FamAt w base n R V m){j:Nat}(hj:j<m):R j<w.heap.size:=(h.row j hj).lt
theorem FamAt.put (h:FamAt w base n R V m){j:Nat}(hj:j<m)(k:Kept [R j] w w2)(r:Row w2 (R j) (nsC n (V' j)) 57)(he: ∀i,i<m->i≠j->V' i=V i):FamAt w2 base n R V' m:=by
 refine⟨fun i hi=>?_,h.dis,h.low⟩;by_cases e:i=j
 ·rw[e];exact r
 ·rw[he i hi e]
  exact k.row (h.row i hi) (by
   intro hm
   exact e (h.dis i j hi hj (by simpa using hm)))
def upR (R:Nat->Nat)(m g:Nat):Nat->Nat:=fun j=>if j=m then g else R j
theorem Y6 (R:Nat->Nat)(m g:Nat):upR R m g m=g:=if_pos rfl
theorem YX (R:Nat->Nat){m g j:Nat}(h:j<m):upR R m g j=R j:=if_neg (by omega)
theorem FamAt.add (h:FamAt w base n R V m){g:Nat}(hg: ∀j,j<m->R j≠g)(hb:base<=g)(r:Row w g (nsC n (V m)) 57):FamAt w base n (upR R m g) V (m+1):=by
 refine⟨fun j hj=>?_,fun i j hi hj e=>?_,fun j hj=>?_⟩
 ·by_cases e:j=m
  ·subst e;rw[Y6];exact r
  ·rw[YX R (show j<m by omega)];exact h.row j (by omega)
 ·by_cases e1:i=m
  ·by_cases e2:j=m
   ·omega
   ·rw[e1,Y6,YX R (show j<m by omega)]at e;exact absurd e.symm (hg j (by omega))
  ·by_cases e2:j=m
   ·rw[e2,Y6,YX R (show i<m by omega)]at e;exact absurd e (hg i (by omega))
   ·rw[YX R (show i<m by omega),YX R (show j<m by omega)]at e;exact h.dis i j (by omega) (by omega) e
 ·by_cases e:j=m
  ·subst e;rw[Y6];exact hb
  ·rw[YX R (show j<m by omega)];exact h.low j (by omega)
theorem Tp (w:World)(base n:Nat)(R:Nat->Nat)(V:Nat->Nat->Nat):FamAt w base n R V 0:=
 ⟨fun j hj=>absurd hj (by omega),fun i j hi=>absurd hi (by omega),fun j hj=>absurd hj (by omega)⟩
end
theorem KJ:(prog.info? 111).map (fun i=>(i.zero,i.size))=some (some (.agg (shC 0 0)),5):=by kernel_rfl
theorem Dv (w:World):(zeroValue 111).run prog w= .ok (.agg (shC 0 0)) w:=(zero_of_info KJ).1 w
theorem KK:(prog.info? 111).map (·.size)=some 5:=(zero_of_info KJ).2
theorem BF (i:Int)(y:Nat):(shC i y).all (·.oneCell')=true:=by simp[shC,Zd,Value.oneCell']
theorem yC (i:Int)(y:Nat): ∀j v,(Zd y).toList[j]?=some v->(shC i y)[1+j]?=some v:=Ul rfl rfl rfl rfl
theorem zb {bcs:Array Value}{off:Nat}{i:Int}{y:Nat}(h: ∀j v,(shC i y).toList[j]?=some v->bcs[off+j]?=some v): ∀j v,(Zd y).toList[j]?=some v->bcs[off+1+j]?=some v:=fun j v hv=>by
 rw[Nat.add_assoc];refine h (1+j) v ?_;rw[Array.getElem?_toList];exact yC i y j v hv
theorem Hf (i:Int)(y:Nat):prog.built 111 [(0,.int .i64 i),(1,.agg (Zd y))]=some (shC i y):=by
 unfold shC Zd;generalize lm y 0=a;generalize lm y 1=b;generalize lm y 2=c;generalize lm y 3=d
 kernel_rfl
theorem Dw:(prog.info? 173).map (fun i=>(i.zero,i.size))=some (some (.agg (vsC 8 fun _=>.bool false)),8):=by kernel_rfl
theorem Dx (w:World):(zeroValue 173).run prog w= .ok (.agg (vsC 8 fun _=>.bool false)) w:=(zero_of_info Dw).1 w
theorem NR:(prog.info? 4).map (·.size)=some 1:=by kernel_rfl
end Go.Proofs.YtnagnkhbamhfmaaGreatDoor
