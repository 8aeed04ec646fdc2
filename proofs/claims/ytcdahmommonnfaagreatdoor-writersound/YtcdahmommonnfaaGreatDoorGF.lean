import Derived.Test.YtcdahmommonnfaaGreatDoorGE
import Derived.Test.YtcdahmommonnfaaGreatDoorGB
import Derived.Lib.Mul64
import Derived.Laws.Bits64b
set_option maxRecDepth 100000
set_option maxHeartbeats 8000000
namespace Go.Proofs.YtcdahmommonnfaaGreatDoor
set_option linter.all false
open Go.Proofs.Tryz
theorem Xq (S P T:Nat)(hP:0<P):(S+P*T)/P=S/P+T:=Nat.add_mul_div_left S T hP
def tlC (A L M k:Nat):Nat:=(A%2^(64*k)*L+M%2^(64*k))/2^(64*k)
theorem Tz (A L M:Nat):tlC A L M 0=0:=by simp[tlC,Nat.mod_one]
theorem Q5 (A L M k:Nat)(hL:L<18446744073709551616):tlC A L M k<18446744073709551616:=by
 have hP:=Nat.two_pow_pos (64*k);have h1:=Nat.mod_lt A hP;have h2:=Nat.mod_lt M hP;unfold tlC;generalize 2^(64*k)=P at*;refine Nat.div_lt_of_lt_mul ?_;have h3:A%P*L<=(P-1)*18446744073709551615:=Nat.mul_le_mul (by omega) (by omega);omega
theorem Gt (A L M k:Nat):(A%2^(64*(k+1))*L+M%2^(64*(k+1)))/2^(64*k)=lm A k*L+lm M k+tlC A L M k:=by
 have hP:=Nat.two_pow_pos (64*k);unfold tlC;rw[XT,XT];generalize lm A k=x;generalize lm M k=y;generalize 2^(64*k)=P at*;rw[show(A%P+P*x)*L+(M%P+P*y)=A%P*L+M%P+P*(x*L+y) by rw[Nat.add_mul,Nat.mul_add,Nat.mul_assoc];omega,Xq _ _ _ hP];omega
theorem VW (A L M k:Nat):tlC A L M (k+1)=(lm A k*L+lm M k+tlC A L M k)/18446744073709551616:=by
 rw[<-Gt]
 conv=>lhs;unfold tlC
 rw[Y5 k,Nat.div_div_eq_div_mul,<-Y5 k]
theorem Wv (u L v:Nat):(u*L+v)%18446744073709551616=(u%18446744073709551616*L+v)%18446744073709551616:=by
 rw[Nat.add_mod,Nat.mul_mod,Nat.add_mod (u%18446744073709551616*L),Nat.mul_mod (u%18446744073709551616) L,Nat.mod_mod]
theorem RV (A L M k:Nat):lm (A*L+M) k=(lm A k*L+lm M k+tlC A L M k)%18446744073709551616:=by
 have hP:=Nat.two_pow_pos (64*k);unfold tlC lm;rw[show(2:Nat)^64=18446744073709551616 from rfl];generalize 2^(64*k)=P at*
 have e:A*L+M=A%P*L+M%P+P*(A/P*L+M/P):=by
  conv=>lhs;rw[<-Nat.mod_add_div A P,<-Nat.mod_add_div M P]
  rw[Nat.add_mul,Nat.mul_add,Nat.mul_assoc];omega
 rw[e,Xq _ _ _ hP,Nat.add_comm,Nat.add_assoc,Wv];omega
theorem NE (x m c:Nat)(hx:x<=340282366920938463426481119284349108225)(hm:m<18446744073709551616)(hc:c<18446744073709551616):
  U1 (U1 (x%18446744073709551616) m 0) c 0=(x+m+c)%18446744073709551616/\
  x/18446744073709551616+RI (x%18446744073709551616) m 0<18446744073709551616/\
  x/18446744073709551616+RI (x%18446744073709551616) m 0+RI (U1 (x%18446744073709551616) m 0) c 0=(x+m+c)/18446744073709551616/\
  (x+m+c)/18446744073709551616<18446744073709551616:=by
 unfold U1 RI;refine⟨by omega,by omega,by omega,by omega⟩
theorem WC (x y:Nat)(hx:x<18446744073709551616)(hy:y<18446744073709551616):x*y<=340282366920938463426481119284349108225:=Nat.mul_le_mul (show x<=18446744073709551615 by omega) (show y<=18446744073709551615 by omega)
theorem TA (A L M:Nat)(hA:A<2^256)(hM:M<2^256):tlC A L M 4=(A*L+M)/2^256:=by
 unfold tlC;rw[show 64*4=256 from rfl,Nat.mod_eq_of_lt hA,Nat.mod_eq_of_lt hM]
def muH (A B k:Nat):Nat:=A*(B%2^(64*k))/2^(64*k)
theorem KR (A B:Nat):muH A B 0=0:=by simp[muH,Nat.mod_one]
theorem I7 (A B k:Nat)(hA:A<2^256):muH A B k<2^256:=by
 have hP:=Nat.two_pow_pos (64*k);have h2:=Nat.mod_lt B hP;unfold muH;generalize 2^(64*k)=P at*;refine Nat.div_lt_of_lt_mul ?_
 calc A*(B%P)<=A*P:=Nat.mul_le_mul_left _ (by omega)
  _<2^256*P:=Nat.mul_lt_mul_of_pos_right hA hP
  _=P*2^256:=Nat.mul_comm _ _
theorem ES (A B k:Nat):A*(B%2^(64*(k+1)))/2^(64*k)=A*lm B k+muH A B k:=by
 have hP:=Nat.two_pow_pos (64*k);unfold muH;rw[XT];generalize lm B k=x;generalize 2^(64*k)=P at*;rw[Nat.mul_add,show A*(P*x)=P*(A*x) by rw[Nat.mul_left_comm],Xq _ _ _ hP];omega
theorem Gv (A B k:Nat):muH A B (k+1)=(A*lm B k+muH A B k)/18446744073709551616:=by
 rw[<-ES]
 conv=>lhs;unfold muH
 rw[Y5 k,Nat.div_div_eq_div_mul,<-Y5 k]
theorem Gw (A B k:Nat):lm (A*B) k=(A*lm B k+muH A B k)%18446744073709551616:=by
 have hP:=Nat.two_pow_pos (64*k);unfold muH lm;rw[show(2:Nat)^64=18446744073709551616 from rfl];generalize 2^(64*k)=P at*
 have e:A*B=A*(B%P)+P*(B/P*A):=by
  conv=>lhs;rw[<-Nat.mod_add_div B P]
  rw[Nat.mul_add,Nat.mul_left_comm A P,Nat.mul_comm A (B/P)]
 rw[e,Xq _ _ _ hP,Nat.add_comm,Wv,Nat.mul_comm (B/P%18446744073709551616) A]
theorem KS (A B:Nat)(hB:B<2^256):muH A B 4=A*B/2^256:=by
 unfold muH;rw[show 64*4=256 from rfl,Nat.mod_eq_of_lt hB]
theorem RW (T i:Nat):lm (T/18446744073709551616) i=lm T (i+1):=by
 unfold lm;rw[Nat.div_div_eq_div_mul,Nat.mul_comm,<-Y5]
theorem Ol (T:Nat)(h:T/2^256<18446744073709551616):Zc (T/18446744073709551616)=#[.int .u64 (lm T 1),.int .u64 (lm T 2),.int .u64 (lm T 3),.int .u64 (T/2^256:Nat)]:=by
 unfold Zc;rw[RW,RW,RW,RW,show lm T (3+1)=T/2^256 from Nat.mod_eq_of_lt h]
theorem lm0 (T:Nat):lm T 0=T%18446744073709551616:=by unfold lm;simp
theorem NF (R l:Nat)(hl:l<18446744073709551616):Zc (R*18446744073709551616+l)=#[.int .u64 l,.int .u64 (lm R 0),.int .u64 (lm R 1),.int .u64 (lm R 2)]:=by
 have h0:(R*18446744073709551616+l)/18446744073709551616=R:=by omega
 unfold Zc;rw[<-RW _ 0,<-RW _ 1,<-RW _ 2,h0,lm0,show(R*18446744073709551616+l)%18446744073709551616=l by omega]
theorem WP (R:Nat)(hR:R<2^256):lm R 3=R/2^192:=by
 unfold lm;rw[show 64*3=192 from rfl];refine Nat.mod_eq_of_lt ?_;rw[Nat.div_lt_iff_lt_mul (by decide)];exact hR
theorem KU (R l:Nat)(hR:R<2^256)(hl:l<18446744073709551616):(R*18446744073709551616+l)/2^256=lm R 3:=by
 rw[WP R hR,show(2:Nat)^256=18446744073709551616*2^192 from rfl,<-Nat.div_div_eq_div_mul]
 congr 1
 omega
def gs (R M:Nat):Nat:=if lm M 3<=lm R 3 then 18446744073709551615 else(lm R 3*18446744073709551616+lm R 2)/lm M 3
theorem C8 (R M:Nat):gs R M<18446744073709551616:=by
 unfold gs
 split
 ·decide
 ·rename_i h
  have h2:=Xz R 2;rw[Nat.div_lt_iff_lt_mul (by omega)];omega
theorem Gx (y v u K R l:Nat)(h1:y<=R*18446744073709551616+l)(h5:R<(u+1)*K)(h6:v*(18446744073709551616*K)<=y)(hl:l<18446744073709551616):v<=u:=by
 rcases Nat.lt_or_ge u v with hlt|hge
 ·exfalso;have h7:(u+1)*K<=v*K:=Nat.mul_le_mul_right _ hlt;have h8:v*(18446744073709551616*K)=v*K*18446744073709551616:=by rw[Nat.mul_comm 18446744073709551616 K,Nat.mul_assoc]
  omega
 ·exact hge
theorem C9 (R M l:Nat)(hR:R<2^256)(hM:M<2^256)(hRM:R<M)(hl:l<18446744073709551616):(R*18446744073709551616+l)/M<=gs R M:=by
 have hq:(R*18446744073709551616+l)/M<18446744073709551616:=by
  rw[Nat.div_lt_iff_lt_mul (by omega)];have:(R+1)*18446744073709551616<=M*18446744073709551616:=Nat.mul_le_mul_right _ (by omega);omega
 unfold gs
 split
 ·omega
 ·rename_i h
  have hm:0<lm M 3:=by omega
  rw[Nat.le_div_iff_mul_le hm];have h1:(R*18446744073709551616+l)/M*M<=R*18446744073709551616+l:=Nat.div_mul_le_self _ _;generalize (R*18446744073709551616+l)/M=q at*;have e1:=WP R hR;have e2:=WP M hM;have e3:lm R 2=R/2^128%18446744073709551616:=rfl
  have h4:lm M 3*2^192<=M:=by rw[e2];exact Nat.div_mul_le_self _ _
  have h5:R<(lm R 3*18446744073709551616+lm R 2+1)*2^128:=by
   rw[e1,e3];have:R/2^192=R/2^128/18446744073709551616:=by rw[Nat.div_div_eq_div_mul]
   rw[this];have:=Nat.lt_div_mul_add (a:=R) (b:=2^128) (by decide);omega
  have h6:q*(lm M 3*2^192)<=q*M:=Nat.mul_le_mul_left _ h4;rw[<-Nat.mul_assoc]at h6;exact Gx _ _ _ _ _ _ h1 h5 h6 hl
theorem KV (X:Nat):Zc (X+2^256*18446744073709551616)=Zc X:=by
 rw[<-Yu,Nat.add_mul_mod_self_left,Yu]
def zz (N M g:Nat):Nat:=N+2^256*18446744073709551616-g*M
theorem TB (M g:Nat)(hM:M<2^256)(hg:g<18446744073709551616):g*M<=2^256*18446744073709551616-2^256:=by
 have:g*M<=18446744073709551615*(2^256-1):=Nat.mul_le_mul (by omega) (by omega);omega
theorem Gy (N M:Nat)(hM:0<M)(hM2:M<2^256):zz N M (N/M)=N%M+2^256*18446744073709551616/\zz N M (N/M)/2^256%18446744073709551616=0:=by
 have h1:=Nat.div_add_mod N M;have h2:=Nat.mod_lt N hM
 have e:zz N M (N/M)=N%M+2^256*18446744073709551616:=by
  unfold zz;rw[Nat.mul_comm M]at h1;generalize N/M*M=x at*;generalize N%M=y at*;omega
 refine⟨e,?_⟩;rw[e,Xq _ _ _ (by decide),Nat.div_eq_of_lt (by omega)]
theorem Gz (N M g:Nat)(hM2:M<2^256)(hg:g<18446744073709551616)(h:N/M<g)(hM:0<M):zz N M g/2^256%18446744073709551616≠0:=by
 have h1:=TB M g hM2 hg;have h2:N<g*M:=(Nat.div_lt_iff_lt_mul hM).1 h
 have h3:2^256<=zz N M g:=by
  unfold zz;have:(2:Nat)^256<=2^256*18446744073709551616:=by decide
  omega
 have h4:zz N M g<2^256*18446744073709551616:=by
  unfold zz;omega
 have h5:zz N M g/2^256<18446744073709551616:=Nat.div_lt_of_lt_mul h4;rw[Nat.mod_eq_of_lt h5];have:1<=zz N M g/2^256:=(Nat.le_div_iff_mul_le (by decide)).2 (by omega);omega
theorem NG (N M g:Nat)(hM2:M<2^256)(hg:g<18446744073709551616)(h:0<g):zz N M (g-1)=zz N M g+M:=by
 have h1:=TB M g hM2 hg;unfold zz
 have h4:g*M=(g-1)*M+M:=by conv=>lhs;rw[show g=g-1+1 by omega,Nat.add_mul,Nat.one_mul]
 omega
theorem GA (Z M:Nat)(hM2:M<2^256):(Z+M)/2^256=Z/2^256+cN Z M 256:=by
 rw[Ns,No Z M _ (by decide),Nat.div_eq_of_lt hM2];omega
theorem KW (N Y:Nat)(hY:Y<=2^256*18446744073709551616):(N+2^256*18446744073709551616-Y)%2^256=WU (N%2^256) (Y%2^256)%2^256/\
  (N+2^256*18446744073709551616-Y)/2^256+Y/2^256+bN (N%2^256) (Y%2^256) 256=N/2^256+18446744073709551616:=by
 unfold bN WU;rw[Nat.mod_mod,Nat.mod_mod];have h1:=Nat.div_add_mod N (2^256);have h2:=Nat.div_add_mod Y (2^256);have h3:=Nat.mod_lt N (show 0<2^256 by decide);have h4:=Nat.mod_lt Y (show 0<2^256 by decide);generalize (2:Nat)^256=P at*;generalize N/P=n1 at*;generalize N%P=n0 at*;generalize Y/P=y1 at*;generalize Y%P=y0 at*;subst h1 h2
 have hle:y1<=n1+18446744073709551616:=by
  rcases Nat.lt_or_ge (n1+18446744073709551616) y1 with h|h
  ·have:=Nat.mul_le_mul_left P (show n1+18446744073709551616+1<=y1 from h);rw[Nat.mul_add,Nat.mul_add]at this;omega
  ·exact h
 by_cases hlt:n0<y0
 ·rw[if_pos hlt]
  have hlt':y1+1<=n1+18446744073709551616:=by
   rcases Nat.lt_or_ge (n1+18446744073709551616) (y1+1)with h|h
   ·obtain rfl:y1=n1+18446744073709551616:=by omega
    rw[Nat.mul_add]at hY;omega
   ·exact h
  obtain⟨t,ht⟩:=Nat.le.dest hlt'
  have e:P*n1+n0+P*18446744073709551616-(P*y1+y0)=n0+P-y0+P*t:=by
   have:=congrArg (P* ·) ht;simp only[Nat.mul_add,Nat.mul_one]at this;omega
  rw[e];refine⟨?_,?_⟩
  ·rw[Nat.add_mul_mod_self_left]
   congr 1;omega
  ·rw[Xq _ _ _ (by omega),Nat.div_eq_of_lt (by omega)];omega
 ·rw[if_neg hlt];obtain⟨t,ht⟩:=Nat.le.dest hle
  have e:P*n1+n0+P*18446744073709551616-(P*y1+y0)=n0-y0+P*t:=by
   have:=congrArg (P* ·) ht;simp only[Nat.mul_add]at this;omega
  rw[e];refine⟨?_,?_⟩
  ·rw[Nat.add_mul_mod_self_left];rw[show n0+(P-y0)=n0-y0+P*1 by omega,Nat.add_mul_mod_self_left]
  ·rw[Xq _ _ _ (by omega),Nat.div_eq_of_lt (by omega)];omega
open Go.RowKit
theorem NH (a:Nat)(ha:a<18446744073709551616):bits .and .u64 (a:Int) 4294967295=((a%4294967296:Nat):Int):=by
 have h:=bits_and_u64_nat a 4294967295 ha (by omega);have e:a&&&4294967295=a%4294967296:=Nat.and_two_pow_sub_one_eq_mod a 32;rw[e]at h;exact h
theorem Ay (a:Nat):(a:Int)/4294967296=((a/4294967296:Nat):Int):=by omega
theorem Az (a b:Nat):(a:Int)*(b:Int)=((a*b:Nat):Int):=(Int.natCast_mul a b).symm
theorem AA (a b:Nat):(a:Int)+(b:Int)=((a+b:Nat):Int):=(Int.natCast_add a b).symm
theorem TC (a:Nat)(ha:a<18446744073709551616):IntKind.u64.wrap (a:Int)=(a:Int):=by rw[IntKind.wrap_u64];omega
theorem Ba (a:Nat):IntKind.u64.wrap (a:Int)=((a%18446744073709551616:Nat):Int):=by rw[IntKind.wrap_u64];omega
theorem SG (x y:Nat)(hx:x<18446744073709551616)(hy:y<18446744073709551616)(w:World):
  Calls prog 208 #[.int .u64 x,.int .u64 y] w fun e w'=>e= .returned (.tuple #[.int .u64 ((x*y/18446744073709551616:Nat):Int),.int .u64 ((x*y%18446744073709551616:Nat):Int)])/\Below w.heap.size w w':=by
 obtain⟨bd,bt,bw,hhi⟩:=Lib.mul64_hi x y hx hy;have ba:=Lib.half_mul_le (a:=x/4294967296) (b:=y/4294967296) (by omega) (by omega);have bb:=Lib.half_mul_le (a:=x/4294967296) (b:=y%4294967296) (by omega) (by omega);have bc:=Lib.half_mul_le (a:=x%4294967296) (b:=y/4294967296) (by omega) (by omega);have ba':x/4294967296*(y/4294967296)<18446744073709551616:=by omega
 have bb':x/4294967296*(y%4294967296)<18446744073709551616:=by omega
 have bc':x%4294967296*(y/4294967296)<18446744073709551616:=by omega
 have bh1:x/4294967296*(y/4294967296)+(x/4294967296*(y%4294967296)+x%4294967296*(y%4294967296)/4294967296)/4294967296<18446744073709551616:=by omega
 have bh:x/4294967296*(y/4294967296)+(x/4294967296*(y%4294967296)+x%4294967296*(y%4294967296)/4294967296)/4294967296+((x/4294967296*(y%4294967296)+x%4294967296*(y%4294967296)/4294967296)%4294967296+x%4294967296*(y/4294967296))/4294967296<18446744073709551616:=by
  have:=WC x y hx hy;omega
 go_enter func208,ntmps208
 go_wp2;simp only[NH x hx,NH y hy,Ay,Az,AA,TC _ bd,TC _ bb',TC _ bt,NH _ bt,TC _ bc',TC _ bw,TC _ ba',TC _ bh1,TC _ bh,Ba (x*y)];rw[hhi];go_ret2;exact⟨rfl,Below.refl _ _⟩
theorem Vm {P:Program}{ops:Array Oper}{rest:List Oper}{o:Oper}{a:Act}{w:World}{Q:Exit->Act->World->Prop}{fn:Func}{en:Array Value->Sem Value}(hgd:o.guard=none)
  (f:FuncId)(args:Array Operand)(ts:Array TypeId)(ho:o.op= .call {callee:=.value (.func f),args:=args,argTypes:=ts})
  (hf:P.funcs[f]?=some fn)(hname:(fn.name== "runtime.NumGoroutine")=false)(hb:fn.body.isNone=true)(hn:Extern.findNext fn=none)(he:Extern.find fn=some en)
  (vs:Array Value)(hv':args.toList.map a.eval=vs.toList)(v:Value)(hr:(en vs).run P w= .ok v w)(h:wpList P ops Q rest (a.put o.dst v) w):wpList P ops Q (o::rest) a w:=
 wpList_plain hgd fun K hK=>by
  have hs:=W1 (P:=P) (ops:=ops) (K:=K) (Q:=Q) (E:=True) hgd f args ts ho hf hname hb hn he vs hv' v hr (hK _ _ h);rw[if_pos (by simp[Region.wanted,hgd])]at hs;exact hs
theorem KX (A L M k ga gl gm gc gr:Nat)(w:World)(hk:k<4)(hL:L<18446744073709551616)(ra:Row w ga (Zc A) 39)(rl:Row w gl #[.int .u64 L] 37)(rm:Row w gm (Zc M) 39)
  (rc:Row w gc #[.int .u64 (tlC A L M k:Nat)] 37)(rr:Row w gr (Zc ((A*L+M)%2^(64*k))) 39)(hne:gr≠gc):
  Calls prog 211 #[.int .i64 k,.pointer (some ⟨ga,0,none⟩),.pointer (some ⟨gl,0,none⟩),.pointer (some ⟨gm,0,none⟩),.pointer (some ⟨gc,0,none⟩),.pointer (some ⟨gr,0,none⟩)] w
   fun e w'=>e= .returned (.tuple #[])/\Row w' gr (Zc ((A*L+M)%2^(64*(k+1)))) 39/\Row w' gc #[.int .u64 (tlC A L M (k+1):Nat)] 37/\Kept [gr,gc] w w':=by
 have hla:=Xz A k;have hlm:=Xz M k;have hc:=Q5 A L M k hL;have hx:=WC _ _ hla hL;obtain⟨t1,t2,t3,t4⟩:=NE (lm A k*L) (lm M k) (tlC A L M k) hx hlm hc
 have T:Hid (lm (A*L+M) k=U1 (U1 (lm A k*L%18446744073709551616) (lm M k) 0) (tlC A L M k) 0/\tlC A L M (k+1)=lm A k*L/18446744073709551616+RI (lm A k*L%18446744073709551616) (lm M k) 0+RI (U1 (lm A k*L%18446744073709551616) (lm M k) 0) (tlC A L M k) 0):=
  ⟨by rw[t1];exact RV A L M k,by rw[t3];exact VW A L M k⟩
 have t4':lm A k*L/18446744073709551616+RI (lm A k*L%18446744073709551616) (lm M k) 0+RI (U1 (lm A k*L%18446744073709551616) (lm M k) 0) (tlC A L M k) 0<18446744073709551616:=by rw[t3];exact t4
 clear t1 t3 t4 hx
 go_enter func211,ntmps211
 go_wp2_with fail
 apply Zo (by kernel_rfl) [] [_,_,_,_,_,_,_,_,_,_] trivial List.nodup_nil
 ·intro p;refine m_m ?_;simp only[pv];refine Zg _ (Ya 39 _ _ rfl ga rfl k 4 rfl hk _ underlying39 sizeOf37) ?_;simp only[pv];refine ZB 37 _ rfl ga k rfl ra (by simp) (.int .u64 (lm A k)) (Yi A k hk) isAgg37 ?_;simp only[pv];refine ZB 37 _ rfl gl 0 rfl rl (by simp) (.int .u64 L) rfl isAgg37 ?_;simp only[pv];refine m_c 208 func208 #[.int .u64 (lm A k),.int .u64 L] (SG _ _ hla hL) ?_;refine m_m ?_;refine m_e ?_;refine m_e ?_;refine m_a ?_;simp only[pv];refine m_a ?_;simp only[pv];refine Zi ?_;intro w1 hkw _ _ _;clear hla;generalize lm A k*L/18446744073709551616=hi at*;generalize lm A k*L%18446744073709551616=lo at*;have rm1:=hkw.row rm (by simp);have rc1:=hkw.row rc (by simp);have rr1:=hkw.row rr (by simp);have hb1:Hid (Kept [] w w1):=hkw;clear ra rl rm rc rr hkw;have c1:=ZV rm1 k (by omega);have c2:w1.cell? ⟨gc,0,none⟩=some (.int .u64 (tlC A L M k:Nat)):=rc1.cell 0;have c3:w1.cell? ⟨gr,k,none⟩=some (.int .u64 (lm ((A*L+M)%2^(64*k)) k)):=ZV rr1 k (by omega);have f2:=rc1.frozen 0;have f3:=rr1.frozen k;have RR:Aside (Row w1 gr (Zc ((A*L+M)%2^(64*k))) 39/\Row w1 gc #[.int .u64 (tlC A L M k:Nat)] 37):=⟨rr1,rc1⟩;clear rm1 rc1 rr1;generalize tlC A L M k=c at*;generalize lm M k=m at*;generalize lm ((A*L+M)%2^(64*k)) k=old at*;have hne':gc≠gr:=fun e=>hne e.symm
  go_wp2_with (first
   |refine Vm rfl 183 _ _ rfl func183 (by kernel_rfl) (by kernel_rfl) Xn Xm #[.int .u64 lo,.int .u64 m,.int .u64 (0:Nat)] rfl _ (YH _ _ _ (by omega) _) ?_
   |refine Vm rfl 183 _ _ rfl func183 (by kernel_rfl) (by kernel_rfl) Xn Xm #[.int .u64 (U1 lo m 0:Nat),.int .u64 c,.int .u64 (0:Nat)] rfl _ (YH _ _ _ (by omega) _) ?_)
  obtain⟨rr1,rc1⟩:=RR.out;obtain⟨hl,hs⟩:=T.out
  go_end0
  refine⟨rfl,?_,?_,?_⟩
  ·have r:=(rr1.setCell k (.int .u64 (U1 (U1 lo m 0) c 0:Nat))).setCell_far gc 0 (.int .u64 (↑hi+ ↑(RI lo m 0)+ ↑(RI (U1 lo m 0) c 0))) hne;rw[Xr (A*L+M) k _ (by omega) hl.symm]at r;exact r
  ·have r:=(rc1.setCell_far gr k (.int .u64 (U1 (U1 lo m 0) c 0:Nat)) hne').setCell 0 (.int .u64 (↑hi+ ↑(RI lo m 0)+ ↑(RI (U1 lo m 0) c 0)));rw[hs];exact r
  ·have h:=hb1.out;refine⟨h.os,h.tape,h.output,by rw[Wx,Wx];exact h.size,fun b hb hm'=>?_⟩;have h1:b≠gr:=fun e=>hm' (by rw[e];simp)
   have h2:b≠gc:=fun e=>hm' (by rw[e];simp)
   exact((heap_setCell_other _ ⟨gc,0,none⟩ b _ h2).trans (heap_setCell_other _ ⟨gr,k,none⟩ b _ h1)).trans (h.block b hb (by simp))
 ·kernel_rfl
theorem SH (A L M:Nat)(w:World)(hA:A<2^256)(hM:M<2^256)(hL:L<18446744073709551616):
  Calls prog 179 #[.agg (Zc A),.int .u64 L,.agg (Zc M)] w fun e w'=>e= .returned (.tuple #[.agg (Zc (A*L+M)),.int .u64 ((A*L+M)/2^256:Nat)])/\Below w.heap.size w w':=by
 have HC:Hid (tlC A L M 4=(A*L+M)/2^256):=TA A L M hA hM;have HL:Hid (L<18446744073709551616):=hL;clear hA hM hL
 go_enter func179,ntmps179
 go_wp2_with (first
  |refine Zr rfl 39 _ rfl _ rfl ?_
  |refine Zj rfl 39 rfl _ Zv ?_)
 go_loopg [13] 4 (fun g s13 wr=> ∃k:Nat,k+g=4/\s13= .int .i64 k/\Row wr w.heap.size (Zc A) 39/\Row wr (w.heap.size+1) #[.int .u64 L] 37/\Row wr (w.heap.size+1+1) (Zc M) 39/\Row wr (w.heap.size+1+1+1) (Zc 0) 39/\
  Row wr (w.heap.size+1+1+1+1) (Zc ((A*L+M)%2^(64*k))) 39/\Row wr (w.heap.size+1+1+1+1+1) #[.int .u64 (tlC A L M k:Nat)] 37/\Below w.heap.size w wr)
 case atStart=>
  refine⟨0,by omega,rfl,(by repeat(first|(refine Row.here ?_;first|(with_reducible rfl)|(simp;done))|refine Row.alloc ?_ _)),(by repeat(first|(refine Row.here ?_;first|(with_reducible rfl)|(simp;done))|refine Row.alloc ?_ _)),(by repeat(first|(refine Row.here ?_;first|(with_reducible rfl)|(simp;done))|refine Row.alloc ?_ _)),(by repeat(first|(refine Row.here ?_;first|(with_reducible rfl)|(simp;done))|refine Row.alloc ?_ _)),?_,?_,(by repeat(first|exact Below.refl _ _|refine Below.alloc ?_ (by simp<;>omega) _))⟩
  ·rw[show(A*L+M)%2^(64*0)=0 by simp[Nat.mod_one]];exact(by repeat(first|(refine Row.here ?_;first|(with_reducible rfl)|(simp;done))|refine Row.alloc ?_ _))
  ·rw[Tz];exact(by repeat(first|(refine Row.here ?_;first|(with_reducible rfl)|(simp;done))|refine Row.alloc ?_ _))
 case round=>
  obtain⟨k,hk,rfl,r0,r1,r2,r3,r4,r5,hb⟩:=hrel
  cases gk with
  |zero=>
   obtain rfl:k=4:=by omega
   rw[show(A*L+M)%2^(64*4)=(A*L+M)%2^256 from rfl,Yu]at r4;rw[HC.out]at r5;clear hk HC HL;have hx: ¬((4:Int)<4):=by omega
   go_wp2_with fail
   apply Zo (by kernel_rfl) [(w.heap.size+1+1+1,39,Zc 0)] [_,_,_,_] ⟨r3,trivial⟩ (by simp)
   ·intro p;refine m_l r4 ?_;simp only[pv];refine ZB 37 _ rfl _ 0 rfl r5 (by simp<;>omega) (.int .u64 ((A*L+M)/2^256:Nat)) rfl isAgg37 ?_;simp only[pv];refine WY 0 39 _ _ rfl rfl rfl (Zc (A*L+M)) rfl (by exact Ze) (by rfl) (ZA _) ?_;simp only[Act.put];refine m_a ?_;simp only[pv];refine Zi ?_;intro w1 hkw hrw _ _;have r3':Row w1 (w.heap.size+1+1+1) (Zc (A*L+M)) 39:=hrw 0 _ rfl;have hb1:=hb.trans (hkw.below w.heap.size hb.size (by simp;omega))
    go_wp2_with fail
    exact Yl rfl _ rfl r3' 4 _ underlying39 (by exact Ze) rfl _ rfl ⟨rfl,hb1⟩
   ·kernel_rfl
  |succ g=>
   have hlt:(k:Int)<4:=by omega
   have RR:Aside (Row wr w.heap.size (Zc A) 39/\Row wr (w.heap.size+1) #[.int .u64 L] 37/\Row wr (w.heap.size+1+1) (Zc M) 39/\Row wr (w.heap.size+1+1+1) (Zc 0) 39/\
    Row wr (w.heap.size+1+1+1+1) (Zc ((A*L+M)%2^(64*k))) 39/\Row wr (w.heap.size+1+1+1+1+1) #[.int .u64 (tlC A L M k:Nat)] 37/\Below w.heap.size w wr):=⟨r0,r1,r2,r3,r4,r5,hb⟩
   clear r0 r1 r2 r3 r4 r5 hb
   go_wp2_with fail
   obtain⟨r0,r1,r2,r3,r4,r5,hb⟩:=RR.out;refine(KX A L M k _ _ _ _ _ wr (by omega) HL.out r0 r1 r2 r5 r4 (by omega)).mono ?_;rintro e w2 ⟨rfl,r4',r5',hk2⟩
   have R2:Aside (Row w2 w.heap.size (Zc A) 39/\Row w2 (w.heap.size+1) #[.int .u64 L] 37/\Row w2 (w.heap.size+1+1) (Zc M) 39/\Row w2 (w.heap.size+1+1+1) (Zc 0) 39/\
    Row w2 (w.heap.size+1+1+1+1) (Zc ((A*L+M)%2^(64*(k+1)))) 39/\Row w2 (w.heap.size+1+1+1+1+1) #[.int .u64 (tlC A L M (k+1):Nat)] 37/\Below w.heap.size w w2):=
    ⟨hk2.row r0 (by simp<;>omega),hk2.row r1 (by simp<;>omega),hk2.row r2 (by simp<;>omega),hk2.row r3 (by simp<;>omega),r4',r5',hb.trans (hk2.below w.heap.size hb.size (by simp<;>omega))⟩
   clear r0 r1 r2 r3 r4 r5 hb RR r4' r5' hk2;go_wp2;obtain⟨r0,r1,r2,r3,r4,r5,hb⟩:=R2.out
   go_roundg g
   case measure=>omega
   case rel=>exact⟨k+1,by omega,by go_num,r0,r1,r2,r3,r4,r5,hb⟩
theorem Bb (A B k:Nat)(hA:A<2^256):(A*lm B k+muH A B k)/2^256<18446744073709551616:=by
 have h1:=I7 A B k hA;have h2:=Xz B k;refine Nat.div_lt_of_lt_mul ?_;have:A*lm B k<=(2^256-1)*18446744073709551615:=Nat.mul_le_mul (by omega) (by omega);omega
theorem TD (A B:Nat)(w:World)(hA:A<2^256)(hB:B<2^256):
  Calls prog 130 #[.agg (Zc A),.agg (Zc B)] w fun e w'=>e= .returned (.tuple #[.agg (Zc (A*B)),.agg (Zc (A*B/2^256))])/\Below w.heap.size w w':=by
 have HC:Hid (muH A B 4=A*B/2^256):=KS A B hB;have HA:Hid (A<2^256):=hA;clear hA hB
 go_enter func130,ntmps130
 go_wp2_with (first
  |refine Zr rfl 39 _ rfl _ rfl ?_
  |refine Zj rfl 39 rfl _ Zv ?_)
 go_loopg [11] 4 (fun g s11 wr=> ∃k:Nat,k+g=4/\s11= .int .i64 k/\Row wr w.heap.size (Zc A) 39/\Row wr (w.heap.size+1) (Zc B) 39/\Row wr (w.heap.size+1+1) (Zc 0) 39/\Row wr (w.heap.size+1+1+1) (Zc 0) 39/\
  Row wr (w.heap.size+1+1+1+1) (Zc ((A*B)%2^(64*k))) 39/\Row wr (w.heap.size+1+1+1+1+1) (Zc (muH A B k)) 39/\Below w.heap.size w wr)
 case atStart=>
  refine⟨0,by omega,rfl,(by repeat(first|(refine Row.here ?_;first|(with_reducible rfl)|(simp;done))|refine Row.alloc ?_ _)),(by repeat(first|(refine Row.here ?_;first|(with_reducible rfl)|(simp;done))|refine Row.alloc ?_ _)),(by repeat(first|(refine Row.here ?_;first|(with_reducible rfl)|(simp;done))|refine Row.alloc ?_ _)),(by repeat(first|(refine Row.here ?_;first|(with_reducible rfl)|(simp;done))|refine Row.alloc ?_ _)),?_,?_,(by repeat(first|exact Below.refl _ _|refine Below.alloc ?_ (by simp<;>omega) _))⟩
  ·rw[show(A*B)%2^(64*0)=0 by simp[Nat.mod_one]];exact(by repeat(first|(refine Row.here ?_;first|(with_reducible rfl)|(simp;done))|refine Row.alloc ?_ _))
  ·rw[KR];exact(by repeat(first|(refine Row.here ?_;first|(with_reducible rfl)|(simp;done))|refine Row.alloc ?_ _))
 case round=>
  obtain⟨k,hk,rfl,r0,r1,r2,r3,r4,r5,hb⟩:=hrel
  cases gk with
  |zero=>
   obtain rfl:k=4:=by omega
   rw[show(A*B)%2^(64*4)=(A*B)%2^256 from rfl,Yu]at r4;rw[HC.out]at r5;clear hk HC HA;have hx: ¬((4:Int)<4):=by omega
   go_wp2_with fail
   apply Zo (by kernel_rfl) [(w.heap.size+1+1,39,Zc 0),(w.heap.size+1+1+1,39,Zc 0)] [_,_,_,_] ⟨r2,r3,trivial⟩ (by simp<;>omega)
   ·intro p;refine m_l r4 ?_;simp only[pv];refine m_l r5 ?_;simp only[pv];refine WY 0 39 _ _ rfl rfl rfl (Zc (A*B)) rfl (by exact Ze) (by rfl) (ZA _) ?_;simp only[Act.put];refine WY 2 39 _ _ rfl rfl rfl (Zc (A*B/2^256)) rfl (by exact Ze) (by rfl) (ZA _) ?_;simp only[Act.put];refine Zi ?_;intro w1 hkw hrw _ _;have r2':Row w1 (w.heap.size+1+1) (Zc (A*B)) 39:=hrw 0 _ rfl;have r3':Row w1 (w.heap.size+1+1+1) (Zc (A*B/2^256)) 39:=hrw 2 _ rfl;have hb1:=hb.trans (hkw.below w.heap.size hb.size (by simp<;>omega))
    go_wp2_with fail
    exact SB rfl _ rfl r2' _ rfl r3' 4 _ underlying39 (by exact Ze) (by exact Ze) rfl ⟨rfl,hb1⟩
   ·kernel_rfl
  |succ g=>
   have hlt:(k:Int)<4:=by omega
   have hlb:=Xz B k;have hH:=I7 A B k HA.out;have hT:=Bb A B k HA.out
   go_wp2_with fail
   apply Zo (by kernel_rfl) [] [_,_,_,_,_,_,_,_,_,_,_,_] trivial List.nodup_nil
   ·intro p;refine m_l r0 ?_;refine m_m ?_;simp only[pv];refine Zg _ (Ya 39 _ _ rfl (w.heap.size+1) rfl (k) 4 rfl (by omega) _ underlying39 sizeOf37) ?_;simp only[pv];refine ZB 37 _ rfl _ (k) rfl r1 (by simp<;>omega) (.int .u64 (lm B k)) (Yi B k (by omega)) isAgg37 ?_;simp only[pv];refine m_l r5 ?_;simp only[pv];refine m_c 179 func179 #[.agg (Zc A),.int .u64 (lm B k),.agg (Zc (muH A B k))] (fun w=>SH _ _ _ w HA.out hH hlb) ?_;refine m_m ?_;refine m_e ?_;refine m_e ?_;simp only[pv];refine m_n ?_;simp only[pv];refine WY 19 39 _ _ rfl rfl rfl (Zc (A*lm B k+muH A B k)) rfl (by exact Ze) (by rfl) (ZA _) ?_;simp only[Act.put];refine m_a ?_;simp only[pv];refine Zi ?_;intro w1 hkw hrw hnew _;have r9:Row w1 (p 9) (Zc (A*lm B k+muH A B k)) 39:=hrw 19 _ rfl;have hp:wr.heap.size<=p 9:=hnew 9 rfl;clear hrw hnew;generalize p 9=q at*;have hl5:=r5.lt;have q0:=hkw.row r0 (by simp);have q1:=hkw.row r1 (by simp);have q2:=hkw.row r2 (by simp);have q3:=hkw.row r3 (by simp);have q4:=hkw.row r4 (by simp);have q5:=hkw.row r5 (by simp);have hb1:=hb.trans (hkw.below w.heap.size hb.size (by simp));clear r0 r1 r2 r3 r4 r5 hb hkw
    have hl:Hid (lm (A*B) k=lm (A*lm B k+muH A B k) 0):=by show _=_;rw[Gw,lm0]
    have hs:Hid (muH A B (k+1)=(A*lm B k+muH A B k)/18446744073709551616):=Gv A B k;have hsh:Hid (Zc ((A*lm B k+muH A B k)/18446744073709551616)=_):=Ol _ hT;generalize A*lm B k+muH A B k=T at*;have c0:=ZV r9 0 (by omega);have c4:=ZV q4 k (by omega);have f4:=q4.frozen k;have s9:=r9.setCell_far (w.heap.size+1+1+1+1) k (.int .u64 (lm T 0)) (by omega);have d1:=ZV s9 1 (by omega);have d2:=ZV s9 2 (by omega);have d3:=ZV s9 3 (by omega);have s5:=q5.setCell_far (w.heap.size+1+1+1+1) k (.int .u64 (lm T 0)) (by omega)
    have R:Aside (Row w1 w.heap.size (Zc A) 39/\Row w1 (w.heap.size+1) (Zc B) 39/\Row w1 (w.heap.size+1+1) (Zc 0) 39/\Row w1 (w.heap.size+1+1+1) (Zc 0) 39/\
     Row w1 (w.heap.size+1+1+1+1) (Zc ((A*B)%2^(64*k))) 39/\Below w.heap.size w w1):=⟨q0,q1,q2,q3,q4,hb1⟩
    clear q0 q1 q2 q3 q4 q5 hb1 r9 s9 hlb hH hT
    go_wp2_with (first
     |refine Zw rfl 39 _ _ rfl _ (Zc (T/18446744073709551616)) rfl (by rw[hsh.out];rfl) s5 (by exact Ze) (by rfl) (ZA _) ?_)
    obtain⟨q0,q1,q2,q3,q4,hb1⟩:=R.out
    go_roundg g
    case measure=>omega
    case rel=>
     refine⟨k+1,by omega,by go_num,(q0.setCell_far _ _ _ (by omega)).setRow_far _ _ (by omega),(q1.setCell_far _ _ _ (by omega)).setRow_far _ _ (by omega),(q2.setCell_far _ _ _ (by omega)).setRow_far _ _ (by omega),(q3.setCell_far _ _ _ (by omega)).setRow_far _ _ (by omega),?_,?_,Zy (Z3 hb1 (by omega) _ _) (by omega) _⟩
     ·have:=(q4.setCell k (.int .u64 (lm T 0))).setRow_far (w.heap.size+1+1+1+1+1) (Zc (T/18446744073709551616)) (by omega);rw[Xr (A*B) k _ (by omega) hl.out.symm]at this;exact this
     ·rw[hs.out];exact s5.setRow _
   ·kernel_rfl
end Go.Proofs.YtcdahmommonnfaaGreatDoor
