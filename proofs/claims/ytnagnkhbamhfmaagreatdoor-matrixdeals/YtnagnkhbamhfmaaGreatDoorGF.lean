import Derived.Test.YtnagnkhbamhfmaaGreatDoorGE
import Derived.Test.YtnagnkhbamhfmaaGreatDoorGB
import Derived.Lib.Mul64
import Derived.Laws.Bits64b
set_option maxRecDepth 100000
set_option maxHeartbeats 8000000
namespace Go.Proofs.YtnagnkhbamhfmaaGreatDoor
set_option linter.all false
open Go.Proofs.Tryz
theorem XK (S P T:Nat)(hP:0<P):(S+P*T)/P=S/P+T:=Nat.add_mul_div_left S T hP
def tlC (A L M k:Nat):Nat:=(A%2^(64*k)*L+M%2^(64*k))/2^(64*k)
theorem Rk (A L M:Nat):tlC A L M 0=0:=by simp[tlC,aP0]
theorem O7 (A L M k:Nat)(hL:L<18446744073709551616):tlC A L M k<18446744073709551616:=by
 have hP:=w_ (64*k);have h1:=m_ A hP;have h2:=m_ M hP;unfold tlC;generalize 2^(64*k)=P at*;refine aE0 ?_;have h3:A%P*L<=(P-1)*18446744073709551615:=L_ (by omega) (by omega);omega
theorem DQ (A L M k:Nat):(A%2^(64*(k+1))*L+M%2^(64*(k+1)))/2^(64*k)=lm A k*L+lm M k+tlC A L M k:=by
 have hP:=w_ (64*k);unfold tlC;rw[Wh,Wh];generalize lm A k=x;generalize lm M k=y;generalize 2^(64*k)=P at*;rw[show(A%P+P*x)*L+(M%P+P*y)=A%P*L+M%P+P*(x*L+y) by rw[aV0,aB0,x_];omega,XK _ _ _ hP];omega
theorem U2 (A L M k:Nat):tlC A L M (k+1)=(lm A k*L+lm M k+tlC A L M k)/18446744073709551616:=by
 rw[<-DQ]
 conv=>lhs;unfold tlC
 rw[Xh k,v_,<-Xh k]
theorem WT (u L v:Nat):(u*L+v)%18446744073709551616=(u%18446744073709551616*L+v)%18446744073709551616:=by
 rw[eR0,aH0,eR0 (u%18446744073709551616*L),aH0 (u%18446744073709551616) L,dM0]
theorem PN (A L M k:Nat):lm (A*L+M) k=(lm A k*L+lm M k+tlC A L M k)%18446744073709551616:=by
 have hP:=w_ (64*k);unfold tlC lm;rw[show(2:Nat)^64=18446744073709551616 from rfl];generalize 2^(64*k)=P at*
 have e:A*L+M=A%P*L+M%P+P*(A/P*L+M/P):=by
  conv=>lhs;rw[<-hE0 A P,<-hE0 M P]
  rw[aV0,aB0,x_];omega
 rw[e,XK _ _ _ hP,bM0,iJ0,WT];omega
theorem LV (x m c:Nat)(hx:x<=340282366920938463426481119284349108225)(hm:m<18446744073709551616)(hc:c<18446744073709551616):
  SE (SE (x%18446744073709551616) m 0) c 0=(x+m+c)%18446744073709551616/\
  x/18446744073709551616+Py (x%18446744073709551616) m 0<18446744073709551616/\
  x/18446744073709551616+Py (x%18446744073709551616) m 0+Py (SE (x%18446744073709551616) m 0) c 0=(x+m+c)/18446744073709551616/\
  (x+m+c)/18446744073709551616<18446744073709551616:=by
 unfold SE Py;refine⟨by omega,by omega,by omega,by omega⟩
theorem W6 (x y:Nat)(hx:x<18446744073709551616)(hy:y<18446744073709551616):x*y<=340282366920938463426481119284349108225:=L_ (show x<=18446744073709551615 by omega) (show y<=18446744073709551615 by omega)
theorem Rl (A L M:Nat)(hA:A<2^256)(hM:M<2^256):tlC A L M 4=(A*L+M)/2^256:=by
 unfold tlC;rw[show 64*4=256 from rfl,g_ hA,g_ hM]
def muH (A B k:Nat):Nat:=A*(B%2^(64*k))/2^(64*k)
theorem Hb (A B:Nat):muH A B 0=0:=by simp[muH,aP0]
theorem EA (A B k:Nat)(hA:A<2^256):muH A B k<2^256:=by
 have hP:=w_ (64*k);have h2:=m_ B hP;unfold muH;generalize 2^(64*k)=P at*;refine aE0 ?_
 calc A*(B%P)<=A*P:=R_ _ (by omega)
  _<2^256*P:=fC0 hA hP
  _=P*2^256:=t_ _ _
theorem AQ (A B k:Nat):A*(B%2^(64*(k+1)))/2^(64*k)=A*lm B k+muH A B k:=by
 have hP:=w_ (64*k);unfold muH;rw[Wh];generalize lm B k=x;generalize 2^(64*k)=P at*;rw[aB0,show A*(P*x)=P*(A*x) by rw[eH0],XK _ _ _ hP];omega
theorem DR (A B k:Nat):muH A B (k+1)=(A*lm B k+muH A B k)/18446744073709551616:=by
 rw[<-AQ]
 conv=>lhs;unfold muH
 rw[Xh k,v_,<-Xh k]
theorem DS (A B k:Nat):lm (A*B) k=(A*lm B k+muH A B k)%18446744073709551616:=by
 have hP:=w_ (64*k);unfold muH lm;rw[show(2:Nat)^64=18446744073709551616 from rfl];generalize 2^(64*k)=P at*
 have e:A*B=A*(B%P)+P*(B/P*A):=by
  conv=>lhs;rw[<-hE0 B P]
  rw[aB0,eH0 A P,t_ A (B/P)]
 rw[e,XK _ _ _ hP,bM0,WT,t_ (B/P%18446744073709551616) A]
theorem Hc (A B:Nat)(hB:B<2^256):muH A B 4=A*B/2^256:=by
 unfold muH;rw[show 64*4=256 from rfl,g_ hB]
theorem PO (T i:Nat):lm (T/18446744073709551616) i=lm T (i+1):=by
 unfold lm;rw[v_,t_,<-Xh]
theorem Mo (T:Nat)(h:T/2^256<18446744073709551616):Zc (T/18446744073709551616)=#[.int .u64 (lm T 1),.int .u64 (lm T 2),.int .u64 (lm T 3),.int .u64 (T/2^256:Nat)]:=by
 unfold Zc;rw[PO,PO,PO,PO,show lm T (3+1)=T/2^256 from g_ h]
theorem lm0 (T:Nat):lm T 0=T%18446744073709551616:=by unfold lm;simp
theorem LW (R l:Nat)(hl:l<18446744073709551616):Zc (R*18446744073709551616+l)=#[.int .u64 l,.int .u64 (lm R 0),.int .u64 (lm R 1),.int .u64 (lm R 2)]:=by
 have h0:(R*18446744073709551616+l)/18446744073709551616=R:=by omega
 unfold Zc;rw[<-PO _ 0,<-PO _ 1,<-PO _ 2,h0,lm0,show(R*18446744073709551616+l)%18446744073709551616=l by omega]
theorem Vr (R:Nat)(hR:R<2^256):lm R 3=R/2^192:=by
 unfold lm;rw[show 64*3=192 from rfl];refine g_ ?_;rw[aX0 (by decide)];exact hR
theorem Hd (R l:Nat)(hR:R<2^256)(hl:l<18446744073709551616):(R*18446744073709551616+l)/2^256=lm R 3:=by
 rw[Vr R hR,show(2:Nat)^256=18446744073709551616*2^192 from rfl,<-v_]
 congr 1
 omega
def gs (R M:Nat):Nat:=if lm M 3<=lm R 3 then 18446744073709551615 else(lm R 3*18446744073709551616+lm R 2)/lm M 3
theorem yX (R M:Nat):gs R M<18446744073709551616:=by
 unfold gs
 split
 ·decide
 ·rename_i h
  have h2:=Xj R 2;rw[aX0 (by omega)];omega
theorem DT (y v u K R l:Nat)(h1:y<=R*18446744073709551616+l)(h5:R<(u+1)*K)(h6:v*(18446744073709551616*K)<=y)(hl:l<18446744073709551616):v<=u:=by
 rcases aC0 u v with hlt|hge
 ·exfalso;have h7:(u+1)*K<=v*K:=z_ _ hlt;have h8:v*(18446744073709551616*K)=v*K*18446744073709551616:=by rw[t_ 18446744073709551616 K,x_]
  omega
 ·exact hge
theorem yY (R M l:Nat)(hR:R<2^256)(hM:M<2^256)(hRM:R<M)(hl:l<18446744073709551616):(R*18446744073709551616+l)/M<=gs R M:=by
 have hq:(R*18446744073709551616+l)/M<18446744073709551616:=by
  rw[aX0 (by omega)];have:(R+1)*18446744073709551616<=M*18446744073709551616:=z_ _ (by omega);omega
 unfold gs
 split
 ·omega
 ·rename_i h
  have hm:0<lm M 3:=by omega
  rw[cO0 hm];have h1:(R*18446744073709551616+l)/M*M<=R*18446744073709551616+l:=bW0 _ _;generalize (R*18446744073709551616+l)/M=q at*;have e1:=Vr R hR;have e2:=Vr M hM;have e3:lm R 2=R/2^128%18446744073709551616:=rfl
  have h4:lm M 3*2^192<=M:=by rw[e2];exact bW0 _ _
  have h5:R<(lm R 3*18446744073709551616+lm R 2+1)*2^128:=by
   rw[e1,e3];have:R/2^192=R/2^128/18446744073709551616:=by rw[v_]
   rw[this];have:=dW0 (a:=R) (b:=2^128) (by decide);omega
  have h6:q*(lm M 3*2^192)<=q*M:=R_ _ h4;rw[<-x_]at h6;exact DT _ _ _ _ _ _ h1 h5 h6 hl
theorem He (X:Nat):Zc (X+2^256*18446744073709551616)=Zc X:=by
 rw[<-Yl,G_,Yl]
def zz (N M g:Nat):Nat:=N+2^256*18446744073709551616-g*M
theorem Rm (M g:Nat)(hM:M<2^256)(hg:g<18446744073709551616):g*M<=2^256*18446744073709551616-2^256:=by
 have:g*M<=18446744073709551615*(2^256-1):=L_ (by omega) (by omega);omega
theorem DU (N M:Nat)(hM:0<M)(hM2:M<2^256):zz N M (N/M)=N%M+2^256*18446744073709551616/\zz N M (N/M)/2^256%18446744073709551616=0:=by
 have h1:=I_ N M;have h2:=m_ N hM
 have e:zz N M (N/M)=N%M+2^256*18446744073709551616:=by
  unfold zz;rw[t_ M]at h1;generalize N/M*M=x at*;generalize N%M=y at*;omega
 refine⟨e,?_⟩;rw[e,XK _ _ _ (by decide),F_ (by omega)]
theorem DV (N M g:Nat)(hM2:M<2^256)(hg:g<18446744073709551616)(h:N/M<g)(hM:0<M):zz N M g/2^256%18446744073709551616≠0:=by
 have h1:=Rm M g hM2 hg;have h2:N<g*M:=(aX0 hM).1 h
 have h3:2^256<=zz N M g:=by
  unfold zz;have:(2:Nat)^256<=2^256*18446744073709551616:=by decide
  omega
 have h4:zz N M g<2^256*18446744073709551616:=by
  unfold zz;omega
 have h5:zz N M g/2^256<18446744073709551616:=aE0 h4;rw[g_ h5];have:1<=zz N M g/2^256:=(cO0 (by decide)).2 (by omega);omega
theorem LX (N M g:Nat)(hM2:M<2^256)(hg:g<18446744073709551616)(h:0<g):zz N M (g-1)=zz N M g+M:=by
 have h1:=Rm M g hM2 hg;unfold zz
 have h4:g*M=(g-1)*M+M:=by conv=>lhs;rw[show g=g-1+1 by omega,aV0,cM0]
 omega
theorem DX (Z M:Nat)(hM2:M<2^256):(Z+M)/2^256=Z/2^256+cN Z M 256:=by
 rw[LL,LH Z M _ (by decide),F_ hM2];omega
theorem Hf (N Y:Nat)(hY:Y<=2^256*18446744073709551616):(N+2^256*18446744073709551616-Y)%2^256=WC (N%2^256) (Y%2^256)%2^256/\
  (N+2^256*18446744073709551616-Y)/2^256+Y/2^256+bN (N%2^256) (Y%2^256) 256=N/2^256+18446744073709551616:=by
 unfold bN WC;rw[dM0,dM0];have h1:=I_ N (2^256);have h2:=I_ Y (2^256);have h3:=m_ N (show 0<2^256 by decide);have h4:=m_ Y (show 0<2^256 by decide);generalize (2:Nat)^256=P at*;generalize N/P=n1 at*;generalize N%P=n0 at*;generalize Y/P=y1 at*;generalize Y%P=y0 at*;subst h1 h2
 have hle:y1<=n1+18446744073709551616:=by
  rcases aC0 (n1+18446744073709551616) y1 with h|h
  ·have:=R_ P (show n1+18446744073709551616+1<=y1 from h);rw[aB0,aB0]at this;omega
  ·exact h
 by_cases hlt:n0<y0
 ·rw[j_ hlt]
  have hlt':y1+1<=n1+18446744073709551616:=by
   rcases aC0 (n1+18446744073709551616) (y1+1)with h|h
   ·obtain rfl:y1=n1+18446744073709551616:=by omega
    rw[aB0]at hY;omega
   ·exact h
  obtain⟨t,ht⟩:=Nat.le.dest hlt'
  have e:P*n1+n0+P*18446744073709551616-(P*y1+y0)=n0+P-y0+P*t:=by
   have:=cY0 (P* ·) ht;simp only[aB0,M_]at this;omega
  rw[e];refine⟨?_,?_⟩
  ·rw[G_]
   congr 1;omega
  ·rw[XK _ _ _ (by omega),F_ (by omega)];omega
 ·rw[i_ hlt];obtain⟨t,ht⟩:=Nat.le.dest hle
  have e:P*n1+n0+P*18446744073709551616-(P*y1+y0)=n0-y0+P*t:=by
   have:=cY0 (P* ·) ht;simp only[aB0]at this;omega
  rw[e];refine⟨?_,?_⟩
  ·rw[G_];rw[show n0+(P-y0)=n0-y0+P*1 by omega,G_]
  ·rw[XK _ _ _ (by omega),F_ (by omega)];omega
open Go.RowKit
theorem PQ (a:Nat)(ha:a<18446744073709551616):bits .and .u64 (a:Int) 4294967295=((a%4294967296:Nat):Int):=by
 have h:=bits_and_u64_nat a 4294967295 ha (by omega);have e:a&&&4294967295=a%4294967296:=cX0 a 32;rw[e]at h;exact h
theorem wH (a:Nat):(a:Int)/4294967296=((a/4294967296:Nat):Int):=by omega
theorem wI (a b:Nat):(a:Int)*(b:Int)=((a*b:Nat):Int):=(cJ0 a b).symm
theorem wJ (a b:Nat):(a:Int)+(b:Int)=((a+b:Nat):Int):=(Int.natCast_add a b).symm
theorem Rn (a:Nat)(ha:a<18446744073709551616):IntKind.u64.wrap (a:Int)=(a:Int):=by rw[P_];omega
theorem yZ (a:Nat):IntKind.u64.wrap (a:Int)=((a%18446744073709551616:Nat):Int):=by rw[P_];omega
theorem Tw (x y:Nat)(hx:x<18446744073709551616)(hy:y<18446744073709551616)(w:World):
  Calls prog 178 #[.int .u64 x,.int .u64 y] w fun e w'=>e= .returned (.tuple #[.int .u64 ((x*y/18446744073709551616:Nat):Int),.int .u64 ((x*y%18446744073709551616:Nat):Int)])/\Below w.heap.size w w':=by
 obtain⟨bd,bt,bw,hhi⟩:=Lib.mul64_hi x y hx hy;have ba:=Lib.half_mul_le (a:=x/4294967296) (b:=y/4294967296) (by omega) (by omega);have bb:=Lib.half_mul_le (a:=x/4294967296) (b:=y%4294967296) (by omega) (by omega);have bc:=Lib.half_mul_le (a:=x%4294967296) (b:=y/4294967296) (by omega) (by omega);have ba':x/4294967296*(y/4294967296)<18446744073709551616:=by omega
 have bb':x/4294967296*(y%4294967296)<18446744073709551616:=by omega
 have bc':x%4294967296*(y/4294967296)<18446744073709551616:=by omega
 have bh1:x/4294967296*(y/4294967296)+(x/4294967296*(y%4294967296)+x%4294967296*(y%4294967296)/4294967296)/4294967296<18446744073709551616:=by omega
 have bh:x/4294967296*(y/4294967296)+(x/4294967296*(y%4294967296)+x%4294967296*(y%4294967296)/4294967296)/4294967296+((x/4294967296*(y%4294967296)+x%4294967296*(y%4294967296)/4294967296)%4294967296+x%4294967296*(y/4294967296))/4294967296<18446744073709551616:=by
  have:=W6 x y hx hy;omega
 go_enter func178,ntmps178
 go_wp2;simp only[PQ x hx,PQ y hy,wH,wI,wJ,Rn _ bd,Rn _ bb',Rn _ bt,PQ _ bt,Rn _ bc',Rn _ bw,Rn _ ba',Rn _ bh1,Rn _ bh,yZ (x*y)];rw[hhi];go_ret2;exact⟨rfl,H_ _ _⟩
theorem Ud {P:Program}{ops:Array Oper}{rest:List Oper}{o:Oper}{a:Act}{w:World}{Q:Exit->Act->World->Prop}{fn:Func}{en:Array Value->Sem Value}(hgd:o.guard=none)
  (f:FuncId)(args:Array Operand)(ts:Array TypeId)(ho:o.op= .call {callee:=.value (.func f),args:=args,argTypes:=ts})
  (hf:P.funcs[f]?=some fn)(hname:(fn.name== "runtime.NumGoroutine")=false)(hb:fn.body.isNone=true)(hn:Extern.findNext fn=none)(he:Extern.find fn=some en)
  (vs:Array Value)(hv':args.toList.map a.eval=vs.toList)(v:Value)(hr:(en vs).run P w= .ok v w)(h:wpList P ops Q rest (a.put o.dst v) w):wpList P ops Q (o::rest) a w:=
 gQ0 hgd fun K hK=>by
  have hs:=VI (P:=P) (ops:=ops) (K:=K) (Q:=Q) (E:=True) hgd f args ts ho hf hname hb hn he vs hv' v hr (hK _ _ h);rw[j_ (by simp[Region.wanted,hgd])]at hs;exact hs
theorem Hg (A L M k ga gl gm gc gr:Nat)(w:World)(hk:k<4)(hL:L<18446744073709551616)(ra:Row w ga (Zc A) 57)(rl:Row w gl #[.int .u64 L] 55)(rm:Row w gm (Zc M) 57)
  (rc:Row w gc #[.int .u64 (tlC A L M k:Nat)] 55)(rr:Row w gr (Zc ((A*L+M)%2^(64*k))) 57)(hne:gr≠gc):
  Calls prog 210 #[.int .i64 k,.pointer (some ⟨ga,0,none⟩),.pointer (some ⟨gl,0,none⟩),.pointer (some ⟨gm,0,none⟩),.pointer (some ⟨gc,0,none⟩),.pointer (some ⟨gr,0,none⟩)] w
   fun e w'=>e= .returned (.tuple #[])/\Row w' gr (Zc ((A*L+M)%2^(64*(k+1)))) 57/\Row w' gc #[.int .u64 (tlC A L M (k+1):Nat)] 55/\Kept [gr,gc] w w':=by
 have hla:=Xj A k;have hlm:=Xj M k;have hc:=O7 A L M k hL;have hx:=W6 _ _ hla hL;obtain⟨t1,t2,t3,t4⟩:=LV (lm A k*L) (lm M k) (tlC A L M k) hx hlm hc
 have T:Hid (lm (A*L+M) k=SE (SE (lm A k*L%18446744073709551616) (lm M k) 0) (tlC A L M k) 0/\tlC A L M (k+1)=lm A k*L/18446744073709551616+Py (lm A k*L%18446744073709551616) (lm M k) 0+Py (SE (lm A k*L%18446744073709551616) (lm M k) 0) (tlC A L M k) 0):=
  ⟨by rw[t1];exact PN A L M k,by rw[t3];exact U2 A L M k⟩
 have t4':lm A k*L/18446744073709551616+Py (lm A k*L%18446744073709551616) (lm M k) 0+Py (SE (lm A k*L%18446744073709551616) (lm M k) 0) (tlC A L M k) 0<18446744073709551616:=by rw[t3];exact t4
 clear t1 t3 t4 hx
 go_enter func210,ntmps210
 go_wp2_with fail
 apply Zi (by kernel_rfl) [] [_,_,_,_,_,_,_,_,_,_] trivial a_
 ·intro p;refine m_m ?_;simp only[pv];refine Ze _ (Zt 57 _ _ rfl ga rfl k 4 rfl hk _ b_ cA0) ?_;simp only[pv];refine Zs 55 _ rfl ga k rfl ra (by simp) (.int .u64 (lm A k)) (Yh A k hk) eG0 ?_;simp only[pv];refine Zs 55 _ rfl gl 0 rfl rl (by simp) (.int .u64 L) rfl eG0 ?_;simp only[pv];refine m_c 178 func178 #[.int .u64 (lm A k),.int .u64 L] (Tw _ _ hla hL) ?_;refine m_m ?_;refine m_e ?_;refine m_e ?_;refine m_a ?_;simp only[pv];refine m_a ?_;simp only[pv];refine Zf ?_;intro w1 hkw _ _ _;clear hla;generalize lm A k*L/18446744073709551616=hi at*;generalize lm A k*L%18446744073709551616=lo at*;have rm1:=hkw.row rm (by simp);have rc1:=hkw.row rc (by simp);have rr1:=hkw.row rr (by simp);have hb1:Hid (Kept [] w w1):=hkw;clear ra rl rm rc rr hkw;have c1:=ZV rm1 k (by omega);have c2:w1.cell? ⟨gc,0,none⟩=some (.int .u64 (tlC A L M k:Nat)):=rc1.cell 0;have c3:w1.cell? ⟨gr,k,none⟩=some (.int .u64 (lm ((A*L+M)%2^(64*k)) k)):=ZV rr1 k (by omega);have f2:=rc1.frozen 0;have f3:=rr1.frozen k;have RR:Aside (Row w1 gr (Zc ((A*L+M)%2^(64*k))) 57/\Row w1 gc #[.int .u64 (tlC A L M k:Nat)] 55):=⟨rr1,rc1⟩;clear rm1 rc1 rr1;generalize tlC A L M k=c at*;generalize lm M k=m at*;generalize lm ((A*L+M)%2^(64*k)) k=old at*;have hne':gc≠gr:=fun e=>hne e.symm
  go_wp2_with (first
   |refine Ud rfl 198 _ _ rfl func198 (by kernel_rfl) (by kernel_rfl) XG XF #[.int .u64 lo,.int .u64 m,.int .u64 (0:Nat)] rfl _ (YH _ _ _ (by omega) _) ?_
   |refine Ud rfl 198 _ _ rfl func198 (by kernel_rfl) (by kernel_rfl) XG XF #[.int .u64 (SE lo m 0:Nat),.int .u64 c,.int .u64 (0:Nat)] rfl _ (YH _ _ _ (by omega) _) ?_)
  obtain⟨rr1,rc1⟩:=RR.out;obtain⟨hl,hs⟩:=T.out
  go_end0
  refine⟨rfl,?_,?_,?_⟩
  ·have r:=(rr1.setCell k (.int .u64 (SE (SE lo m 0) c 0:Nat))).setCell_far gc 0 (.int .u64 (↑hi+ ↑(Py lo m 0)+ ↑(Py (SE lo m 0) c 0))) hne;rw[XO (A*L+M) k _ (by omega) hl.symm]at r;exact r
  ·have r:=(rc1.setCell_far gr k (.int .u64 (SE (SE lo m 0) c 0:Nat)) hne').setCell 0 (.int .u64 (↑hi+ ↑(Py lo m 0)+ ↑(Py (SE lo m 0) c 0)));rw[hs];exact r
  ·have h:=hb1.out;refine⟨h.os,h.tape,h.output,by rw[W1,W1];exact h.size,fun b hb hm'=>?_⟩;have h1:b≠gr:=fun e=>hm' (by rw[e];simp)
   have h2:b≠gc:=fun e=>hm' (by rw[e];simp)
   exact((fS0 _ ⟨gc,0,none⟩ b _ h2).trans (fS0 _ ⟨gr,k,none⟩ b _ h1)).trans (h.block b hb (by simp))
 ·kernel_rfl
theorem Qp (A L M:Nat)(w:World)(hA:A<2^256)(hM:M<2^256)(hL:L<18446744073709551616):
  Calls prog 195 #[.agg (Zc A),.int .u64 L,.agg (Zc M)] w fun e w'=>e= .returned (.tuple #[.agg (Zc (A*L+M)),.int .u64 ((A*L+M)/2^256:Nat)])/\Below w.heap.size w w':=by
 have HC:Hid (tlC A L M 4=(A*L+M)/2^256):=Rl A L M hA hM;have HL:Hid (L<18446744073709551616):=hL;clear hA hM hL
 go_enter func195,ntmps195
 go_wp2_with (first
  |refine Zl rfl 57 _ rfl _ rfl ?_
  |refine Zg rfl 57 rfl _ Zp ?_)
 go_loopg [13] 4 (fun g s13 wr=> ∃k:Nat,k+g=4/\s13= .int .i64 k/\Row wr w.heap.size (Zc A) 57/\Row wr (w.heap.size+1) #[.int .u64 L] 55/\Row wr (w.heap.size+1+1) (Zc M) 57/\Row wr (w.heap.size+1+1+1) (Zc 0) 57/\
  Row wr (w.heap.size+1+1+1+1) (Zc ((A*L+M)%2^(64*k))) 57/\Row wr (w.heap.size+1+1+1+1+1) #[.int .u64 (tlC A L M k:Nat)] 55/\Below w.heap.size w wr)
 case atStart=>
  refine⟨0,by omega,rfl,(by repeat(first|(refine Row.here ?_;first|(with_reducible rfl)|(simp;done))|refine Row.alloc ?_ _)),(by repeat(first|(refine Row.here ?_;first|(with_reducible rfl)|(simp;done))|refine Row.alloc ?_ _)),(by repeat(first|(refine Row.here ?_;first|(with_reducible rfl)|(simp;done))|refine Row.alloc ?_ _)),(by repeat(first|(refine Row.here ?_;first|(with_reducible rfl)|(simp;done))|refine Row.alloc ?_ _)),?_,?_,(by repeat(first|exact H_ _ _|refine dN0 ?_ (by simp<;>omega) _))⟩
  ·rw[show(A*L+M)%2^(64*0)=0 by simp[aP0]];exact(by repeat(first|(refine Row.here ?_;first|(with_reducible rfl)|(simp;done))|refine Row.alloc ?_ _))
  ·rw[Rk];exact(by repeat(first|(refine Row.here ?_;first|(with_reducible rfl)|(simp;done))|refine Row.alloc ?_ _))
 case round=>
  obtain⟨k,hk,rfl,r0,r1,r2,r3,r4,r5,hb⟩:=hrel
  cases gk with
  |zero=>
   obtain rfl:k=4:=by omega
   rw[show(A*L+M)%2^(64*4)=(A*L+M)%2^256 from rfl,Yl]at r4;rw[HC.out]at r5;clear hk HC HL;have hx: ¬((4:Int)<4):=by omega
   go_wp2_with fail
   apply Zi (by kernel_rfl) [(w.heap.size+1+1+1,57,Zc 0)] [_,_,_,_] ⟨r3,trivial⟩ (by simp)
   ·intro p;refine m_l r4 ?_;simp only[pv];refine Zs 55 _ rfl _ 0 rfl r5 (by simp<;>omega) (.int .u64 ((A*L+M)/2^256:Nat)) rfl eG0 ?_;simp only[pv];refine Xc 0 57 _ _ rfl rfl rfl (Zc (A*L+M)) rfl (by exact Zd) (by rfl) (Zu _) ?_;simp only[Act.put];refine m_a ?_;simp only[pv];refine Zf ?_;intro w1 hkw hrw _ _;have r3':Row w1 (w.heap.size+1+1+1) (Zc (A*L+M)) 57:=hrw 0 _ rfl;have hb1:=hb.trans (hkw.below w.heap.size hb.size (by simp;omega))
    go_wp2_with fail
    exact Z9 rfl _ rfl r3' 4 _ b_ (by exact Zd) rfl _ rfl ⟨rfl,hb1⟩
   ·kernel_rfl
  |succ g=>
   have hlt:(k:Int)<4:=by omega
   have RR:Aside (Row wr w.heap.size (Zc A) 57/\Row wr (w.heap.size+1) #[.int .u64 L] 55/\Row wr (w.heap.size+1+1) (Zc M) 57/\Row wr (w.heap.size+1+1+1) (Zc 0) 57/\
    Row wr (w.heap.size+1+1+1+1) (Zc ((A*L+M)%2^(64*k))) 57/\Row wr (w.heap.size+1+1+1+1+1) #[.int .u64 (tlC A L M k:Nat)] 55/\Below w.heap.size w wr):=⟨r0,r1,r2,r3,r4,r5,hb⟩
   clear r0 r1 r2 r3 r4 r5 hb
   go_wp2_with fail
   obtain⟨r0,r1,r2,r3,r4,r5,hb⟩:=RR.out;refine(Hg A L M k _ _ _ _ _ wr (by omega) HL.out r0 r1 r2 r5 r4 (by omega)).mono ?_;rintro e w2 ⟨rfl,r4',r5',hk2⟩
   have R2:Aside (Row w2 w.heap.size (Zc A) 57/\Row w2 (w.heap.size+1) #[.int .u64 L] 55/\Row w2 (w.heap.size+1+1) (Zc M) 57/\Row w2 (w.heap.size+1+1+1) (Zc 0) 57/\
    Row w2 (w.heap.size+1+1+1+1) (Zc ((A*L+M)%2^(64*(k+1)))) 57/\Row w2 (w.heap.size+1+1+1+1+1) #[.int .u64 (tlC A L M (k+1):Nat)] 55/\Below w.heap.size w w2):=
    ⟨hk2.row r0 (by simp<;>omega),hk2.row r1 (by simp<;>omega),hk2.row r2 (by simp<;>omega),hk2.row r3 (by simp<;>omega),r4',r5',hb.trans (hk2.below w.heap.size hb.size (by simp<;>omega))⟩
   clear r0 r1 r2 r3 r4 r5 hb RR r4' r5' hk2;go_wp2;obtain⟨r0,r1,r2,r3,r4,r5,hb⟩:=R2.out
   go_roundg g
   case measure=>omega
   case rel=>exact⟨k+1,by omega,by go_num,r0,r1,r2,r3,r4,r5,hb⟩
theorem y5 (A B k:Nat)(hA:A<2^256):(A*lm B k+muH A B k)/2^256<18446744073709551616:=by
 have h1:=EA A B k hA;have h2:=Xj B k;refine aE0 ?_;have:A*lm B k<=(2^256-1)*18446744073709551615:=L_ (by omega) (by omega);omega
theorem U3 (A B:Nat)(w:World)(hA:A<2^256)(hB:B<2^256):
  Calls prog 157 #[.agg (Zc A),.agg (Zc B)] w fun e w'=>e= .returned (.tuple #[.agg (Zc (A*B)),.agg (Zc (A*B/2^256))])/\Below w.heap.size w w':=by
 have HC:Hid (muH A B 4=A*B/2^256):=Hc A B hB;have HA:Hid (A<2^256):=hA;clear hA hB
 go_enter func157,ntmps157
 go_wp2_with (first
  |refine Zl rfl 57 _ rfl _ rfl ?_
  |refine Zg rfl 57 rfl _ Zp ?_)
 go_loopg [11] 4 (fun g s11 wr=> ∃k:Nat,k+g=4/\s11= .int .i64 k/\Row wr w.heap.size (Zc A) 57/\Row wr (w.heap.size+1) (Zc B) 57/\Row wr (w.heap.size+1+1) (Zc 0) 57/\Row wr (w.heap.size+1+1+1) (Zc 0) 57/\
  Row wr (w.heap.size+1+1+1+1) (Zc ((A*B)%2^(64*k))) 57/\Row wr (w.heap.size+1+1+1+1+1) (Zc (muH A B k)) 57/\Below w.heap.size w wr)
 case atStart=>
  refine⟨0,by omega,rfl,(by repeat(first|(refine Row.here ?_;first|(with_reducible rfl)|(simp;done))|refine Row.alloc ?_ _)),(by repeat(first|(refine Row.here ?_;first|(with_reducible rfl)|(simp;done))|refine Row.alloc ?_ _)),(by repeat(first|(refine Row.here ?_;first|(with_reducible rfl)|(simp;done))|refine Row.alloc ?_ _)),(by repeat(first|(refine Row.here ?_;first|(with_reducible rfl)|(simp;done))|refine Row.alloc ?_ _)),?_,?_,(by repeat(first|exact H_ _ _|refine dN0 ?_ (by simp<;>omega) _))⟩
  ·rw[show(A*B)%2^(64*0)=0 by simp[aP0]];exact(by repeat(first|(refine Row.here ?_;first|(with_reducible rfl)|(simp;done))|refine Row.alloc ?_ _))
  ·rw[Hb];exact(by repeat(first|(refine Row.here ?_;first|(with_reducible rfl)|(simp;done))|refine Row.alloc ?_ _))
 case round=>
  obtain⟨k,hk,rfl,r0,r1,r2,r3,r4,r5,hb⟩:=hrel
  cases gk with
  |zero=>
   obtain rfl:k=4:=by omega
   rw[show(A*B)%2^(64*4)=(A*B)%2^256 from rfl,Yl]at r4;rw[HC.out]at r5;clear hk HC HA;have hx: ¬((4:Int)<4):=by omega
   go_wp2_with fail
   apply Zi (by kernel_rfl) [(w.heap.size+1+1,57,Zc 0),(w.heap.size+1+1+1,57,Zc 0)] [_,_,_,_] ⟨r2,r3,trivial⟩ (by simp<;>omega)
   ·intro p;refine m_l r4 ?_;simp only[pv];refine m_l r5 ?_;simp only[pv];refine Xc 0 57 _ _ rfl rfl rfl (Zc (A*B)) rfl (by exact Zd) (by rfl) (Zu _) ?_;simp only[Act.put];refine Xc 2 57 _ _ rfl rfl rfl (Zc (A*B/2^256)) rfl (by exact Zd) (by rfl) (Zu _) ?_;simp only[Act.put];refine Zf ?_;intro w1 hkw hrw _ _;have r2':Row w1 (w.heap.size+1+1) (Zc (A*B)) 57:=hrw 0 _ rfl;have r3':Row w1 (w.heap.size+1+1+1) (Zc (A*B/2^256)) 57:=hrw 2 _ rfl;have hb1:=hb.trans (hkw.below w.heap.size hb.size (by simp<;>omega))
    go_wp2_with fail
    exact Ua rfl _ rfl r2' _ rfl r3' 4 _ b_ (by exact Zd) (by exact Zd) rfl ⟨rfl,hb1⟩
   ·kernel_rfl
  |succ g=>
   have hlt:(k:Int)<4:=by omega
   have hlb:=Xj B k;have hH:=EA A B k HA.out;have hT:=y5 A B k HA.out
   go_wp2_with fail
   apply Zi (by kernel_rfl) [] [_,_,_,_,_,_,_,_,_,_,_,_] trivial a_
   ·intro p;refine m_l r0 ?_;refine m_m ?_;simp only[pv];refine Ze _ (Zt 57 _ _ rfl (w.heap.size+1) rfl (k) 4 rfl (by omega) _ b_ cA0) ?_;simp only[pv];refine Zs 55 _ rfl _ (k) rfl r1 (by simp<;>omega) (.int .u64 (lm B k)) (Yh B k (by omega)) eG0 ?_;simp only[pv];refine m_l r5 ?_;simp only[pv];refine m_c 195 func195 #[.agg (Zc A),.int .u64 (lm B k),.agg (Zc (muH A B k))] (fun w=>Qp _ _ _ w HA.out hH hlb) ?_;refine m_m ?_;refine m_e ?_;refine m_e ?_;simp only[pv];refine m_n ?_;simp only[pv];refine Xc 19 57 _ _ rfl rfl rfl (Zc (A*lm B k+muH A B k)) rfl (by exact Zd) (by rfl) (Zu _) ?_;simp only[Act.put];refine m_a ?_;simp only[pv];refine Zf ?_;intro w1 hkw hrw hnew _;have r9:Row w1 (p 9) (Zc (A*lm B k+muH A B k)) 57:=hrw 19 _ rfl;have hp:wr.heap.size<=p 9:=hnew 9 rfl;clear hrw hnew;generalize p 9=q at*;have hl5:=r5.lt;have q0:=hkw.row r0 (by simp);have q1:=hkw.row r1 (by simp);have q2:=hkw.row r2 (by simp);have q3:=hkw.row r3 (by simp);have q4:=hkw.row r4 (by simp);have q5:=hkw.row r5 (by simp);have hb1:=hb.trans (hkw.below w.heap.size hb.size (by simp));clear r0 r1 r2 r3 r4 r5 hb hkw
    have hl:Hid (lm (A*B) k=lm (A*lm B k+muH A B k) 0):=by show _=_;rw[DS,lm0]
    have hs:Hid (muH A B (k+1)=(A*lm B k+muH A B k)/18446744073709551616):=DR A B k;have hsh:Hid (Zc ((A*lm B k+muH A B k)/18446744073709551616)=_):=Mo _ hT;generalize A*lm B k+muH A B k=T at*;have c0:=ZV r9 0 (by omega);have c4:=ZV q4 k (by omega);have f4:=q4.frozen k;have s9:=r9.setCell_far (w.heap.size+1+1+1+1) k (.int .u64 (lm T 0)) (by omega);have d1:=ZV s9 1 (by omega);have d2:=ZV s9 2 (by omega);have d3:=ZV s9 3 (by omega);have s5:=q5.setCell_far (w.heap.size+1+1+1+1) k (.int .u64 (lm T 0)) (by omega)
    have R:Aside (Row w1 w.heap.size (Zc A) 57/\Row w1 (w.heap.size+1) (Zc B) 57/\Row w1 (w.heap.size+1+1) (Zc 0) 57/\Row w1 (w.heap.size+1+1+1) (Zc 0) 57/\
     Row w1 (w.heap.size+1+1+1+1) (Zc ((A*B)%2^(64*k))) 57/\Below w.heap.size w w1):=⟨q0,q1,q2,q3,q4,hb1⟩
    clear q0 q1 q2 q3 q4 q5 hb1 r9 s9 hlb hH hT
    go_wp2_with (first
     |refine Zr rfl 57 _ _ rfl _ (Zc (T/18446744073709551616)) rfl (by rw[hsh.out];rfl) s5 (by exact Zd) (by rfl) (Zu _) ?_)
    obtain⟨q0,q1,q2,q3,q4,hb1⟩:=R.out
    go_roundg g
    case measure=>omega
    case rel=>
     refine⟨k+1,by omega,by go_num,(q0.setCell_far _ _ _ (by omega)).setRow_far _ _ (by omega),(q1.setCell_far _ _ _ (by omega)).setRow_far _ _ (by omega),(q2.setCell_far _ _ _ (by omega)).setRow_far _ _ (by omega),(q3.setCell_far _ _ _ (by omega)).setRow_far _ _ (by omega),?_,?_,Zq (ZN hb1 (by omega) _ _) (by omega) _⟩
     ·have:=(q4.setCell k (.int .u64 (lm T 0))).setRow_far (w.heap.size+1+1+1+1+1) (Zc (T/18446744073709551616)) (by omega);rw[XO (A*B) k _ (by omega) hl.out.symm]at this;exact this
     ·rw[hs.out];exact s5.setRow _
   ·kernel_rfl
end Go.Proofs.YtnagnkhbamhfmaaGreatDoor
