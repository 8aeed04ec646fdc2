import Derived.Test.YtnagnkhbamhfmaaGreatDoorGA
import Derived.Deep.DeepCutAuto
import Derived.Deep.RegionLaw
set_option maxRecDepth 100000
set_option maxHeartbeats 8000000
namespace Go.Proofs.YtnagnkhbamhfmaaGreatDoor
set_option linter.all false
open Go.Proofs.Tryz
open Go.RowKit
theorem DB (n:Int)(w:World)(h:n<=0):
  Calls prog 40 #[.int .i64 n] w fun e w'=>e= .returned (.agg (Zc n.toNat))/\Below w.heap.size w w':=by
 have hg: ¬(0<n):=by omega
 have hd:decide (0<n)=false:=by simpa using hg
 go_enter iQ0,ntmps40
 go_wp2_with (first
  |refine Zg rfl 57 rfl _ Zp ?_
  |refine Zg rfl 140 rfl _ Xf ?_
  |refine Zv rfl 140 rfl _ Uy ?_
  |refine ZL rfl 140 _ _ rfl _ rfl rfl _ _ (by rw[ZQ];exact Yq) (by simp only[ZQ]) (Xt _) ?_)
 go_loopg [4] 0 (fun g s4 wr=>s4= .int .i64 0/\Row wr (w.heap.size+1) (YE 0) 140/\Row wr w.heap.size (Zc 0) 57/\Below w.heap.size w wr)
 case atStart=>exact⟨rfl,Row.here (by simp),Row.one rfl,Z1 _ _⟩
 case round=>
  obtain⟨rfl,r0,r1,hb⟩:=hrel
  go_wp2_with (first
   |refine Zj rfl 140 _ rfl _ rfl r0 256 _ iG0 (by rw[ZQ];exact Yq) ?_
   |(go_at_call 89;refine(OX _ _).mono ?_;rintro e w2 ⟨rfl,hb2⟩;have r5:=r1.belowAll hb2;have b5:=Zk hb (c_ _) hb2)
   |refine Zr rfl 57 _ _ rfl _ _ rfl rfl r5 (by exact Zd) (by simp only[Zo]) (Zu _) ?_)
  rw[show n.toNat=0 by omega];exact ZM rfl _ rfl (r5.setRow _) 4 _ b_ (by exact Zd) rfl ⟨rfl,Zq b5 (by omega) _⟩
theorem I1 (N:Nat)(w:World)(h0:0<N)(h1:N<9223372036854775808):
  Calls prog 40 #[.int .i64 N] w fun e w'=>e= .returned (.agg (Zc N))/\Below w.heap.size w w':=by
 have hg:(0:Int)<N:=by omega
 have H1:Hid (N<9223372036854775808):=h1;clear h1 h0
 go_enter iQ0,ntmps40
 go_wp2_with (first
  |refine Zg rfl 57 rfl _ Zp ?_
  |refine Zg rfl 140 rfl _ Xf ?_
  |refine Zv rfl 140 rfl _ Uy ?_
  |refine ZL rfl 140 _ _ rfl _ rfl rfl _ _ (by rw[ZQ];exact Yq) (by simp only[ZQ]) (Xt _) ?_)
 go_loopg [4] 63 (fun g s4 wr=> ∃k:Nat,k+g=63/\s4= .int .i64 k/\Row wr (w.heap.size+1) (YE (N%2^k)) 140/\Row wr w.heap.size (Zc 0) 57/\Below w.heap.size w wr)
 case atStart=>exact⟨0,by omega,rfl,by rw[W_,aP0];exact Row.here (by simp),Row.one rfl,Z1 _ _⟩
 case round=>
  obtain⟨k,hk,rfl,r0,r1,hb⟩:=hrel
  cases gk with
  |zero=>
   obtain rfl:k=63:=by omega
   rw[g_ (show N<2^63 from H1.out)]at r0;clear hk;have hx: ¬((63:Int)<63):=by omega
   go_wp2_with (first
    |refine Zj rfl 140 _ rfl _ rfl r0 256 _ iG0 (by rw[ZQ];exact Yq) ?_
    |(go_at_call 89;refine(OX _ _).mono ?_;rintro e w2 ⟨rfl,hb2⟩;have r5:=r1.belowAll hb2;have b5:=Zk hb (c_ _) hb2)
    |refine Zr rfl 57 _ _ rfl _ _ rfl rfl r5 (by exact Zd) (by simp only[Zo]) (Zu _) ?_)
   exact ZM rfl _ rfl (r5.setRow _) 4 _ b_ (by exact Zd) rfl ⟨rfl,Zq b5 (by omega) _⟩
  |succ g=>
   have hlt:(k:Int)<63:=by omega
   have hlt':(k:Int)<256:=by omega
   have hc0:=X6 r0 k (by omega);have hf0:=r0.frozen k;have R:Aside (Row wr (w.heap.size+1) (YE (N%2^k)) 140/\Row wr w.heap.size (Zc 0) 57/\Below w.heap.size w wr):=⟨r0,r1,hb⟩;clear r0 r1 hb;go_wp2;obtain⟨r0,r1,hb⟩:=R.out
   go_roundg g
   case measure=>omega
   case rel=>
    refine⟨k+1,by omega,by go_num,?_,r1.setCell_far _ _ _ (by omega),ZN hb (by omega) _ _⟩;have:=r0.setCell k (.bool (bits BinOp.and IntKind.i64 (↑N/2^k) 1==1));rw[Qb N k _ (Mg _ _ H1.out)]at this;exact this
theorem Vp (n:Int)(w:World)(h:n<9223372036854775808):
  Calls prog 40 #[.int .i64 n] w (Rt (.agg (Zc n.toNat)) w):=by
 by_cases h0:n<=0
 ·exact DB n w h0
 ·obtain⟨N,rfl⟩:=aM0 (show 0<=n by omega);rw[q_];exact I1 N w (by omega) (by omega)
def wG (N:Nat):Nat:=2^256-1-N%2^256
def wx (N k:Nat):Nat:=wG N%2^k+N/2^k*2^k
def Wn (A B:Nat):Int:=if A<B then-1 else if B<A then 1 else 0
theorem I3 (A B g:Nat)(h:A/2^(g+1)=B/2^(g+1)):
  (A.testBit g=B.testBit g->A/2^g=B/2^g)/\(A.testBit g=true->B.testBit g=false->B<A)/\(A.testBit g=false->B.testBit g=true->A<B):=by
 have hP:=w_ g;rw[cN0,<-v_,<-v_]at h;have ha:=I_ A (2^g);have hb:=I_ B (2^g);have ma:=m_ A hP;have mb:=m_ B hP
 have key: ∀x y P a b:Nat,0<P->a<P->b<P->x<y->P*x+a<P*y+b:=by
  intro x y P a b h0 h1 _ h3;have:P*(x+1)<=P*y:=R_ P h3;rw[aB0]at this;omega
 rcases To A g with ⟨h1,h2,_⟩|⟨h1,h2,_⟩<;>rcases To B g with ⟨h3,h4,_⟩|⟨h3,h4,_⟩<;>rw[h1,h3]<;>simp
 ·omega
 ·have:=key (A/2^g) (B/2^g) _ _ _ hP ma mb (by omega);omega
 ·have:=key (B/2^g) (A/2^g) _ _ _ hP mb ma (by omega);omega
 ·omega
theorem I4 (A B:Nat)(w:World)(hA:A<2^256)(hB:B<2^256):
  Calls prog 86 #[.agg (Zc A),.agg (Zc B)] w fun e w'=>e= .returned (.int .i64 (Wn A B))/\Below w.heap.size w w':=by
 have HAB:Hid (A/2^256=B/2^256):=by show _=_;rw[F_ hA,F_ hB]
 clear hA hB
 go_enter func86,ntmps86
 go_wp2_with (first
  |refine Zl rfl 57 _ rfl _ rfl ?_)
 have hW:((w.alloc (Obj.cells (Zc A) 57)).alloc (Obj.cells (Zc B) 57)).heap.size=w.heap.size+2:=by simp
 have rA:Row ((w.alloc (Obj.cells (Zc A) 57)).alloc (Obj.cells (Zc B) 57)) w.heap.size (Zc A) 57:=Row.one rfl;have rB:Row ((w.alloc (Obj.cells (Zc A) 57)).alloc (Obj.cells (Zc B) 57)) (w.heap.size+1) (Zc B) 57:=Row.here (by simp);have bW:Below w.heap.size w ((w.alloc (Obj.cells (Zc A) 57)).alloc (Obj.cells (Zc B) 57)):=Z1 _ _;generalize ((w.alloc (Obj.cells (Zc A) 57)).alloc (Obj.cells (Zc B) 57))=W at*
 refine VC (by kernel_rfl) (fun d a' w'=>
  (d 6=false/\d 7=false/\(d 3=true->d 2=true)/\ ∃vp vq va vx vb vy:Value,a'=({tmps:=List.toArray ((.agg (Zc A))::(.agg (Zc B))::(.pointer (some ⟨w.heap.size,0,none⟩))::(.pointer (some ⟨w.heap.size+1,0,none⟩))::(.int .i64 0)::vp::vq::undef::va::vx::vb::vy::undef::undef::undef::undef::undef::undef::undef::undef::undef::undef::undef::undef::undef::undef::[]),defers:=[]}:Act)/\
   (d 0=true->va= .agg (Zc A))/\(d 1=true->vx= .agg (YE A))/\(d 2=true->vb= .agg (Zc B))/\(d 3=true->vy= .agg (YE B))/\
   (d 4=true-> ∃p,vp= .pointer (some ⟨p,0,none⟩)/\w.heap.size+2<=p/\Row w' p (YE 0) 140)/\(d 5=true-> ∃q,vq= .pointer (some ⟨q,0,none⟩)/\w.heap.size+2<=q/\Row w' q (YE 0) 140)/\
   (d 4=true->d 5=true->vp≠vq)/\Below (w.heap.size+2) W w')∨
  ((∀j,j<7->d j=true)/\ ∃p q va vx vb vy,∃vp vq:Value,vp= .pointer (some ⟨p,0,none⟩)/\vq= .pointer (some ⟨q,0,none⟩)/\va= .agg (Zc A)/\vx= .agg (YE A)/\vb= .agg (Zc B)/\vy= .agg (YE B)/\a'=({tmps:=List.toArray ((.agg (Zc A))::(.agg (Zc B))::(.pointer (some ⟨w.heap.size,0,none⟩))::(.pointer (some ⟨w.heap.size+1,0,none⟩))::(.int .i64 0)::vp::vq::undef::va::vx::vb::vy::undef::undef::undef::undef::undef::undef::undef::undef::undef::undef::undef::undef::undef::undef::[]),defers:=[]}:Act)/\
   w.heap.size+2<=p/\w.heap.size+2<=q/\p≠q/\Row w' p (YE A) 140/\Row w' q (if d 7=true then YE B else YE 0) 140/\Below (w.heap.size+2) W w')) (by kernel_rfl) ?start ?step ?fin
 case start=>exact .inl ⟨rfl,rfl,nofun,undef,undef,undef,undef,undef,undef,rfl,nofun,nofun,nofun,nofun,nofun,nofun,nofun,(H_ _ _).drew⟩
 case step=>
  intro i o ho d a' w' hI hd hpre;rcases hI with ⟨d6,d7,d32,vp,vq,va,vx,vb,vy,rfl,h0,h1,h2,h3,h4,h5,h6,hb⟩|⟨hall,p,q,va,vx,vb,vy,vp,vq,rfl,rfl,rfl,rfl,rfl,rfl,rfl,hp,hq,hne,rp,rq,hb⟩
  ·have hsz:w.heap.size+2<=w'.heap.size:=by have:=hb.size;omega
   match i,ho with
   |0,ho=>
    have ho':=aI0 ho;subst ho';refine OY 57 _ rfl w.heap.size rfl (rA.below hb (by omega)) 4 _ b_ Zd ?_;exact .inl ⟨d6,d7,d32,vp,vq,_,vx,vb,vy,rfl,fun _=>rfl,h1,h2,h3,h4,h5,h6,hb⟩
   |1,ho=>
    have ho':=aI0 ho;subst ho';have e0:=h0 (hpre ⟨0,.data⟩ (by simp) rfl);subst e0;refine U1 104 _ _ rfl func104 (by kernel_rfl) #[.agg (Zc A)] rfl ?_;refine(VH A w').mono fun e w2 ⟨he,hb2⟩=>⟨_,he,.inl ⟨d6,d7,d32,vp,vq,_,_,vb,vy,rfl,fun _=>rfl,fun _=>rfl,h2,h3,fun h=>?_,fun h=>?_,h6,hb.trans (hb2.mono hsz)⟩⟩
    ·obtain⟨p,e,hp,r⟩:=h4 h;exact⟨p,e,hp,r.belowAll hb2⟩
    ·obtain⟨p,e,hp,r⟩:=h5 h;exact⟨p,e,hp,r.belowAll hb2⟩
   |2,ho=>
    have ho':=aI0 ho;subst ho';refine OY 57 _ rfl (w.heap.size+1) rfl (rB.below hb (by omega)) 4 _ b_ Zd ?_;exact .inl ⟨d6,d7,fun _=>rfl,vp,vq,va,vx,_,vy,rfl,h0,h1,fun _=>rfl,h3,h4,h5,h6,hb⟩
   |3,ho=>
    have ho':=aI0 ho;subst ho';have D2:=hpre ⟨2,.data⟩ (by simp) rfl;have e0:=h2 D2;subst e0;refine U1 104 _ _ rfl func104 (by kernel_rfl) #[.agg (Zc B)] rfl ?_;refine(VH B w').mono fun e w2 ⟨he,hb2⟩=>⟨_,he,.inl ⟨d6,d7,fun _=>D2,vp,vq,va,vx,_,_,rfl,h0,h1,fun _=>rfl,fun _=>rfl,fun h=>?_,fun h=>?_,h6,hb.trans (hb2.mono hsz)⟩⟩
    ·obtain⟨p,e,hp,r⟩:=h4 h;exact⟨p,e,hp,r.belowAll hb2⟩
    ·obtain⟨p,e,hp,r⟩:=h5 h;exact⟨p,e,hp,r.belowAll hb2⟩
   |4,ho=>
    have ho':=aI0 ho;subst ho';refine Qg 140 rfl _ Xf ?_;refine .inl ⟨d6,d7,d32,_,vq,va,vx,vb,vy,rfl,h0,h1,h2,h3,fun _=>⟨w'.heap.size,rfl,hsz,Row.new _ _ _⟩,fun h=>?_,fun _ h=>?_,hb.alloc hsz _⟩
    ·obtain⟨p,e,hp,r⟩:=h5 h;exact⟨p,e,hp,r.alloc _⟩
    ·obtain⟨p,e,hp,r⟩:=h5 h;subst e;intro e;have hlt:=r.lt;simp at e
     first|done|omega
   |5,ho=>
    have ho':=aI0 ho;subst ho';refine Qg 140 rfl _ Xf ?_;refine .inl ⟨d6,d7,d32,vp,_,va,vx,vb,vy,rfl,h0,h1,h2,h3,fun h=>?_,fun _=>⟨w'.heap.size,rfl,hsz,Row.new _ _ _⟩,fun h _=>?_,hb.alloc hsz _⟩
    ·obtain⟨p,e,hp,r⟩:=h4 h;exact⟨p,e,hp,r.alloc _⟩
    ·obtain⟨p,e,hp,r⟩:=h4 h;subst e;intro e;have hlt:=r.lt;simp at e
     first|done|omega
   |6,ho=>
    have ho':=aI0 ho;subst ho';have D0:=hpre ⟨0,.phase⟩ (by simp) rfl;have D1:=hpre ⟨1,.data⟩ (by simp) rfl;have D3:=hpre ⟨3,.chain⟩ (by simp) rfl;have D4:=hpre ⟨4,.data⟩ (by simp) rfl;have D5:=hpre ⟨5,.phase⟩ (by simp) rfl;have D2:=d32 D3;obtain⟨p,ep,hp,rp⟩:=h4 D4;obtain⟨q,eq,hq,rq⟩:=h5 D5;have hne:=h6 D4 D5;have e0:=h0 D0;have e1:=h1 D1;have e2:=h2 D2;have e3:=h3 D3;subst ep eq e0 e1 e2 e3;have hpq:p≠q:=fun e=>hne (by rw[e])
    refine Qh 140 _ _ rfl p (YE A) rfl rfl rp (by rw[ZQ];exact Yq) (by simp only[ZQ]) (Xt _) ?_;refine .inr ⟨fun j hj=>?_,p,q,_,_,_,_,_,_,rfl,rfl,rfl,rfl,rfl,rfl,rfl,hp,hq,hpq,rp.setRow _,?_,Zq hb hp _⟩
    ·match j,hj with
     |0,_=>exact D0
     |1,_=>exact D1
     |2,_=>exact D2
     |3,_=>exact D3
     |4,_=>exact D4
     |5,_=>exact D5
     |6,_=>rfl
    ·have hr:=rq.setRow_far p (YE A) (Ne.symm hpq);rw[i_ (by show ¬d 7=true;rw[d7];decide)];exact hr
   |7,ho=>
    have ho':=aI0 ho;subst ho';have D6:=hpre ⟨6,.chain⟩ (by simp) rfl;rw[d6]at D6;cases D6
   |n+8,ho=>cases ho
  ·match i,ho with
   |0,_=>rw[hall 0 (by omega)]at hd;cases hd
   |1,_=>rw[hall 1 (by omega)]at hd;cases hd
   |2,_=>rw[hall 2 (by omega)]at hd;cases hd
   |3,_=>rw[hall 3 (by omega)]at hd;cases hd
   |4,_=>rw[hall 4 (by omega)]at hd;cases hd
   |5,_=>rw[hall 5 (by omega)]at hd;cases hd
   |6,_=>rw[hall 6 (by omega)]at hd;cases hd
   |7,ho=>
    have ho':=aI0 ho;subst ho';rw[i_ (by rw[hd];decide)]at rq;refine Qh 140 _ _ rfl q (YE B) rfl rfl rq (by rw[ZQ];exact Yq) (by simp only[ZQ]) (Xt _) ?_;exact .inr ⟨fun j hj=>by show(j==7||d j)=true;rw[hall j hj,fQ0],p,q,_,_,_,_,_,_,rfl,rfl,rfl,rfl,rfl,rfl,rfl,hp,hq,hne,rp.setRow_far _ _ hne,(by rw[j_ (by rfl)];exact rq.setRow _),Zq hb hq _⟩
   |n+8,ho=>cases ho
 case fin=>
  intro d a' w' hI hall;rcases hI with ⟨d6,_⟩|⟨_,p,q,va,vx,vb,vy,vp,vq,rfl,rfl,rfl,rfl,rfl,rfl,rfl,hp,hq,hne,rp,rq,hb⟩
  ·rw[hall 6 (by decide)]at d6;cases d6
  rw[hall 7 (by decide),j_ rfl]at rq;have hsz:=hb.size;have bw:=bW.trans (hb.mono (by omega));clear hb rA rB bW hall;go_wp2
  go_loopg [7] 256 (fun g s7 wr=>s7= .int .i64 ((g:Int)-1)/\A/2^g=B/2^g/\g<=256/\Row wr p (YE A) 140/\Row wr q (YE B) 140/\Below w.heap.size w wr)
  case atStart=>exact⟨rfl,HAB.out,c_ _,rp,rq,bw⟩
  case round=>
   obtain⟨rfl,hdiv,hle,r1,r2,hb⟩:=hrel;clear rp rq bw HAB
   cases gk with
   |zero=>
    rw[W_,bR0,bR0]at hdiv;subst hdiv;clear hle;have hx: ¬((0:Int)<= -1):=by omega
    go_wp2;go_ret;exact⟨by simp[Wn],hb⟩
   |succ g=>
    have hstep:=I3 A B g hdiv;have hc1:=X6 r1 g (by omega);have hc2:=X6 r2 g (by omega);rw[show((g+1:Nat):Int)-1=(g:Int) by omega];have hgl:(g:Int)<256:=by omega
    generalize A.testBit g=x at*;generalize B.testBit g=y at*;have R:Aside (((x=y->A/2^g=B/2^g)/\(x=true->y=false->B<A)/\(x=false->y=true->A<B))/\Row wr p (YE A) 140/\Row wr q (YE B) 140/\Below w.heap.size w wr):=⟨hstep,r1,r2,hb⟩;clear hstep r1 r2 hb hdiv
    cases x<;>cases y
    ·go_wp2
     go_region
     go_wp2;obtain⟨h1,r1,r2,hb⟩:=R.out
     go_roundg g
     case measure=>omega
     case rel=>exact⟨rfl,h1.1 (by simp),by omega,r1,r2,hb.drew⟩
    ·go_wp2
     go_region
     go_wp2;obtain⟨h1,r1,r2,hb⟩:=R.out;go_ret;exact⟨by rw[Wn,j_ (h1.2.2 (by simp) (by simp))];rfl,hb.drew⟩
    ·go_wp2
     go_region
     go_wp2;obtain⟨h1,r1,r2,hb⟩:=R.out;go_ret;have hlt:=h1.2.1 (by simp) (by simp);exact⟨by rw[Wn,i_ (by omega),j_ hlt];rfl,hb.drew⟩
    ·go_wp2
     go_region
     go_wp2;obtain⟨h1,r1,r2,hb⟩:=R.out
     go_roundg g
     case measure=>omega
     case rel=>exact⟨rfl,h1.1 (by simp),by omega,r1,r2,hb.drew⟩
theorem Qm (A g:Nat)(h1:2^g<=A)(h2:A<2^(g+1)):bitLen A=g+1:=by
 have h0:A≠0:=by have:=w_ g;omega
 unfold bitLen;rw[i_ h0,(Nat.log2_eq_iff h0).2 ⟨h1,h2⟩]
theorem DC (A g:Nat)(h2:A<2^(g+1)):(A.testBit g=true->2^g<=A)/\(A.testBit g=false->A<2^g):=by
 constructor
 ·intro h;exact Nat.ge_two_pow_of_testBit h
 ·intro h;rcases To A g with ⟨_,_,h3⟩|⟨h3,_⟩
  ·rw[g_ h2]at h3;rw[h3];exact m_ _ (w_ g)
  ·rw[h]at h3;cases h3
def AJ (A:Nat)(k:Int):Int:=if 0<=k/\k<256/\A.testBit k.toNat=true then 1 else 0
theorem Rh (A:Nat)(w:World)(hA:A<2^256):
  Calls prog 103 #[.agg (Zc A)] w fun e w'=>e= .returned (.int .i64 (bitLen A))/\Below w.heap.size w w':=by
 have HA:Hid (A<2^256):=hA;clear hA
 go_enter func103,ntmps103
 go_wp2_with (first
  |refine Zl rfl 57 _ rfl _ rfl ?_
  |refine Zj rfl 57 _ rfl _ rfl (by first|assumption|(refine Row.here ?_;first|(with_reducible rfl)|(simp;done))|(refine Row.one ?_;first|(with_reducible rfl)|(simp;done))|(refine Row.two ?_;first|(with_reducible rfl)|(simp;done))) 4 _ b_ (by exact Zd) ?_
  |(go_at_call 104;refine(VH _ _).mono ?_;rintro e w2 ⟨rfl,hb2⟩;have hs:=hb2.size;have b2:=Zk (Z6 _) (c_ _) hb2;clear hb2)
  |refine Zg rfl 140 rfl _ Xf ?_
  |refine ZL rfl 140 _ _ rfl _ rfl rfl _ _ (by rw[ZQ];exact Yq) (by simp only[ZQ]) (Xt _) ?_)
 have r3:=Row.new w2 (YE A) 140;have b3:=b2.alloc b2.size (.cells (YE A) 140);generalize w2.alloc (.cells (YE A) 140)=w3 at*;generalize w2.heap.size=r at*;clear b2 hs
 go_loopg [4] 256 (fun g s4 wr=>s4= .int .i64 ((g:Int)-1)/\A<2^g/\g<=256/\Row wr r (YE A) 140/\Below w.heap.size w wr)
 case atStart=>exact⟨rfl,HA.out,c_ _,r3,b3⟩
 case round=>
  obtain⟨rfl,hlt,hle,r0,hb⟩:=hrel;clear r3 b3 HA
  cases gk with
  |zero=>
   obtain rfl:A=0:=by simpa using hlt
   clear hlt hle;go_wp2;go_ret;exact⟨rfl,hb⟩
  |succ g=>
   have ht:=DC A g hlt;have hq:=Qm A g;have hc0:=X6 r0 g (by omega);rw[show((g+1:Nat):Int)-1=(g:Int) by omega];have hgl:(g:Int)<256:=by omega
   cases hbit:A.testBit g
   ·rw[hbit]at hc0;have R:Aside (A<2^g/\Row wr r (YE A) 140/\Below w.heap.size w wr):=⟨ht.2 hbit,r0,hb⟩;clear ht hq r0 hb hlt hbit;go_wp2;obtain⟨h1,r0,hb⟩:=R.out
    go_roundg g
    case measure=>omega
    case rel=>exact⟨rfl,h1,by omega,r0,hb⟩
   ·rw[hbit]at hc0;have R:Aside (bitLen A=g+1/\Below w.heap.size w wr):=⟨hq (ht.1 hbit) hlt,hb⟩;clear ht hq r0 hb hlt hbit;go_wp2;go_ret;exact⟨by rw[R.out.1];rfl,R.out.2⟩
theorem DD (A k:Nat)(w:World)(hk:k<256):
  Calls prog 177 #[.agg (Zc A),.int .i64 k] w fun e w'=>e= .returned (.int .i64 (if A.testBit k=true then 1 else 0))/\Below w.heap.size w w':=by
 have hk':(k:Int)<256:=by omega
 cases hbit:A.testBit k
 all_goals
  have HB:Hid (A.testBit k=_):=hbit;clear hbit
  go_enter func177,ntmps177
  go_wp2_with (first
   |refine Zl rfl 57 _ rfl _ rfl ?_
   |refine Zj rfl 57 _ rfl _ rfl (by first|assumption|(refine Row.here ?_;first|(with_reducible rfl)|(simp;done))|(refine Row.one ?_;first|(with_reducible rfl)|(simp;done))|(refine Row.two ?_;first|(with_reducible rfl)|(simp;done))) 4 _ b_ (by exact Zd) ?_
   |(go_at_call 104;refine(VH _ _).mono ?_;rintro e w2 ⟨rfl,hb2⟩;have b2:=(Zk (Z6 _) (c_ _) hb2).alloc (by have:=hb2.size;simp at this;omega) (.cells (YE A) 140);clear hb2;have hc0:=X6 (Row.new w2 (YE A) 140) k hk;rw[HB.out]at hc0)
   |refine Zg rfl 140 rfl _ Xf ?_
   |refine ZL rfl 140 _ _ rfl _ rfl rfl _ _ (by rw[ZQ];exact Yq) (by simp only[ZQ]) (Xt _) ?_)
  go_ret;exact⟨rfl,b2⟩
theorem I5 (A:Nat)(k:Int)(w:World)(hk:k<0∨256<=k):
  Calls prog 177 #[.agg (Zc A),.int .i64 k] w fun e w'=>e= .returned (.int .i64 0)/\Below w.heap.size w w':=by
 rcases hk with hk|hk
 ·have h1: ¬(0<=k):=by omega
  have h2:decide (0<=k)=false:=by simpa using h1
  go_enter func177,ntmps177
  go_wp2_with (first
   |refine Zl rfl 57 _ rfl _ rfl ?_
   |refine Zj rfl 57 _ rfl _ rfl (by first|assumption|(refine Row.here ?_;first|(with_reducible rfl)|(simp;done))|(refine Row.one ?_;first|(with_reducible rfl)|(simp;done))|(refine Row.two ?_;first|(with_reducible rfl)|(simp;done))) 4 _ b_ (by exact Zd) ?_
   |(go_at_call 104;refine(VH _ _).mono ?_;rintro e w2 ⟨rfl,hb2⟩;have b2:=(Zk (Z6 _) (c_ _) hb2).alloc (by have:=hb2.size;simp at this;omega) (.cells (YE A) 140);clear hb2)
   |refine Zg rfl 140 rfl _ Xf ?_
   |refine ZL rfl 140 _ _ rfl _ rfl rfl _ _ (by rw[ZQ];exact Yq) (by simp only[ZQ]) (Xt _) ?_)
  go_ret;exact⟨rfl,b2⟩
 ·have h1: ¬(k<256):=by omega
  have h2:decide (k<256)=false:=by simpa using h1
  have h3:0<=k:=by omega
  go_enter func177,ntmps177
  go_wp2_with (first
   |refine Zl rfl 57 _ rfl _ rfl ?_
   |refine Zj rfl 57 _ rfl _ rfl (by first|assumption|(refine Row.here ?_;first|(with_reducible rfl)|(simp;done))|(refine Row.one ?_;first|(with_reducible rfl)|(simp;done))|(refine Row.two ?_;first|(with_reducible rfl)|(simp;done))) 4 _ b_ (by exact Zd) ?_
   |(go_at_call 104;refine(VH _ _).mono ?_;rintro e w2 ⟨rfl,hb2⟩;have b2:=(Zk (Z6 _) (c_ _) hb2).alloc (by have:=hb2.size;simp at this;omega) (.cells (YE A) 140);clear hb2)
   |refine Zg rfl 140 rfl _ Xf ?_
   |refine ZL rfl 140 _ _ rfl _ rfl rfl _ _ (by rw[ZQ];exact Yq) (by simp only[ZQ]) (Xt _) ?_)
  go_ret;exact⟨rfl,b2⟩
theorem I6 (A:Nat)(k:Int)(w:World):
  Calls prog 177 #[.agg (Zc A),.int .i64 k] w (Rt (.int .i64 (AJ A k)) w):=by
 unfold AJ;by_cases h0:0<=k/\k<256
 ·obtain⟨K,rfl⟩:=aM0 h0.1;refine(DD A K w (by omega)).mono fun e w' ⟨he,hb⟩=>⟨?_,hb⟩
  rw[he,q_];by_cases hb:A.testBit K=true
  ·rw[j_ hb,j_ ⟨h0.1,h0.2,hb⟩]
  ·rw[i_ hb,i_ (fun h=>hb h.2.2)]
 ·rw[i_ (fun h=>h0 ⟨h.1,h.2.1⟩)];exact I5 A k w (by omega)
theorem DE (A:Nat)(w:World)(hA:A<2^256)(h:63<bitLen A):
  Calls prog 50 #[.agg (Zc A)] w fun e w'=>e= .returned (.tuple #[.int .i64 0,.bool false])/\Below w.heap.size w w':=by
 have HA:Hid (A<2^256):=hA;clear hA;have h':(63:Int)<(bitLen A:Int):=by omega
 clear h
 go_enter func50,ntmps50
 go_wp2_with (first
  |refine Zl rfl 57 _ rfl _ rfl ?_
  |refine Zj rfl 57 _ rfl _ rfl (by first|assumption|(refine Row.here ?_;first|(with_reducible rfl)|(simp;done))|(refine Row.one ?_;first|(with_reducible rfl)|(simp;done))|(refine Row.two ?_;first|(with_reducible rfl)|(simp;done))) 4 _ b_ (by exact Zd) ?_
  |(go_at_call 103;refine(Rh _ _ HA.out).mono ?_;rintro e w2 ⟨rfl,hb2⟩;have b2:=Zk (Z6 _) (c_ _) hb2;clear hb2))
 go_ret2;exact⟨rfl,b2⟩
theorem I7 (A:Nat)(w:World)(hA:A<9223372036854775808)(h:bitLen A<=63):
  Calls prog 50 #[.agg (Zc A)] w fun e w'=>e= .returned (.tuple #[.int .i64 A,.bool true])/\Below w.heap.size w w':=by
 have HA:Hid (A<9223372036854775808):=hA;clear hA;have h': ¬(63:Int)<(bitLen A:Int):=by omega
 clear h
 go_enter func50,ntmps50
 go_wp2_with (first
  |refine Zl rfl 57 _ rfl _ rfl ?_
  |refine Zj rfl 57 _ rfl _ rfl (by first|assumption|(refine Row.here ?_;first|(with_reducible rfl)|(simp;done))|(refine Row.one ?_;first|(with_reducible rfl)|(simp;done))|(refine Row.two ?_;first|(with_reducible rfl)|(simp;done))) 4 _ b_ (by exact Zd) ?_
  |(go_at_call 103;refine(Rh _ _ (E_ HA.out (by decide))).mono ?_;rintro e w2 ⟨rfl,hb2⟩;have r2:=(Row.here (w:=w) (c:=Zc A) (t:=57) (b:=w.heap.size) rfl).belowAll hb2;have b2:=Zk (Z6 _) (c_ _) hb2;clear hb2)
  |refine Zj rfl 57 _ rfl _ rfl r2 4 _ b_ (by exact Zd) ?_
  |(go_at_call 104;refine(VH _ _).mono ?_;rintro e w3 ⟨rfl,hb3⟩;have b3:=Zk b2 (c_ _) hb3;clear hb3)
  |refine Zg rfl 140 rfl _ Xf ?_
  |refine ZL rfl 140 _ _ rfl _ rfl rfl _ _ (by rw[ZQ];exact Yq) (by simp only[ZQ]) (Xt _) ?_)
 have r3:=Row.new w3 (YE A) 140;have b4:=b3.alloc b3.size (.cells (YE A) 140);generalize w3.alloc (.cells (YE A) 140)=w4 at*;generalize w3.heap.size=r at*;clear b2 b3 r2 h'
 go_loopg [4,6] 63 (fun g s4 s6 wr=> ∃k:Nat,k+g=63/\s4= .int .i64 ((A%2^k:Nat):Int)/\s6= .int .i64 k/\Row wr r (YE A) 140/\Below w.heap.size w wr)
 case atStart=>exact⟨0,by omega,by rw[W_,aP0];rfl,rfl,r3,b4⟩
 case round=>
  obtain⟨k,hk,rfl,rfl,r0,hb⟩:=hrel;clear r3 b4
  cases gk with
  |zero=>
   obtain rfl:k=63:=by omega
   rw[g_ (show A<2^63 from HA.out)];clear hk;have hx: ¬((63:Int)<63):=by omega
   go_wp2;go_ret2;exact⟨rfl,hb⟩
  |succ g=>
   have hlt:(k:Int)<63:=by omega
   have hlt':(k:Int)<256:=by omega
   have hc0:=X6 r0 k (by omega);have hm:A%2^k<9223372036854775808:=T_ (Nat.mod_le _ _) HA.out;have hno:=Tn A k;have hor:=PF A k;have HM:Hid (A%2^k<9223372036854775808):=hm;cases hbit:A.testBit k
   ·rw[hbit]at hc0;have R:Aside (A%2^(k+1)=A%2^k/\Row wr r (YE A) 140/\Below w.heap.size w wr):=⟨hno hbit,r0,hb⟩;clear hno hor r0 hb hbit hm;go_wp2;obtain⟨h1,r0,hb⟩:=R.out
    go_roundg g
    case measure=>omega
    case rel=>exact⟨k+1,by omega,by rw[h1],by go_num,r0,hb⟩
   ·rw[hbit]at hc0;have R:Aside (A%2^k|||2^k=A%2^(k+1)/\Row wr r (YE A) 140/\Below w.heap.size w wr):=⟨hor hbit,r0,hb⟩;clear hno hor r0 hb hbit hm;go_wp2;obtain⟨h1,r0,hb⟩:=R.out
    go_roundg g
    case measure=>omega
    case rel=>exact⟨k+1,by omega,by rw[<-h1,<-OV _ _ HM.out (by omega),J_,fO0];simp[wrap64],by go_num,r0,hb⟩
theorem XF:Extern.find Tryz.f198=some add64Entry:=by kernel_rfl
theorem XG:Extern.findNext Tryz.f198=none:=by kernel_rfl
theorem Mm:Extern.find Tryz.f191=some SD:=by kernel_rfl
theorem Mn:Extern.findNext Tryz.f191=none:=by kernel_rfl
theorem Uc (A B:Nat)(w:World):
  Calls prog 184 #[.agg (Zc A),.agg (Zc B)] w fun e w'=>e= .returned (.tuple #[.agg (Zc (A+B)),.int .i64 (cN A B 256:Nat)])/\Below w.heap.size w w':=by
 go_enter func184,ntmps184
 go_wp2_with (first
  |refine Zl rfl 57 _ rfl _ rfl ?_
  |refine Zg rfl 57 rfl _ Zp ?_)
 go_loopg [7,9] 4 (fun g s7 s9 wr=> ∃k:Nat,k+g=4/\s7= .int .u64 (cN A B (64*k))/\s9= .int .i64 k/\Row wr w.heap.size (Zc A) 57/\Row wr (w.heap.size+1) (Zc B) 57/\Row wr (w.heap.size+1+1) (Zc 0) 57/\Row wr (w.heap.size+1+1+1) (Zc ((A+B)%2^(64*k))) 57/\Below w.heap.size w wr)
 case atStart=>
  refine⟨0,by omega,by rw[show cN A B (64*0)=0 by unfold cN;rw[show LG A B (64*0)=false from Me A B];rfl];rfl,rfl,(Row.two rfl).alloc _,Row.two (by simp),Row.one (by simp),?_,(YD _ _ _).alloc (by simp;omega) _⟩;rw[show(A+B)%2^(64*0)=0 by simp[aP0]];exact Row.here (by simp)
 case round=>
  obtain⟨k,hk,rfl,rfl,r0,r1,r2,r3,hb⟩:=hrel
  cases gk with
  |zero=>
   obtain rfl:k=4:=by omega
   rw[show(A+B)%2^(64*4)=(A+B)%2^256 from rfl,Yl]at r3;clear hk;have hx: ¬((4:Int)<4):=by omega
   have hcl:=Dv A B (64*4);rw[show 64*4=256 from rfl]at hcl ⊢;have HC:Hid (∃c,cN A B 256=c):=⟨_,rfl⟩;obtain⟨c,hC⟩:=HC.out;rw[hC]at hcl ⊢;have HC:Hid (cN A B 256=c):=hC;clear hC
   go_wp2_with (first
    |refine Zj rfl 57 _ rfl _ rfl r3 4 _ b_ (by exact Zd) ?_
    |refine Zr rfl 57 _ _ rfl _ _ rfl rfl r2 (by exact Zd) (by simp only[Zo]) (Zu _) ?_)
   refine Z9 rfl _ rfl (r2.setRow _) 4 _ b_ (by exact Zd) rfl _ rfl ⟨by rw[HC.out];rfl,Zq hb (by omega) _⟩
  |succ g=>
   have hlt:(k:Int)<4:=by omega
   have hc0:=ZV r0 k (by omega);have hc1:=ZV r1 k (by omega);have hc3:=ZV r3 k (by omega);have hf3:=r3.frozen k;have R:Aside (Row wr w.heap.size (Zc A) 57/\Row wr (w.heap.size+1) (Zc B) 57/\Row wr (w.heap.size+1+1) (Zc 0) 57/\Row wr (w.heap.size+1+1+1) (Zc ((A+B)%2^(64*k))) 57/\Below w.heap.size w wr):=⟨r0,r1,r2,r3,hb⟩;clear r0 r1 r2 r3 hb;have hcl:=Dv A B (64*k);have hl:=IX A B k;have hs:=LM A B k;generalize cN A B (64*k)=c at*;have S:Aside (lm (A+B) k=SE (lm A k) (lm B k) c/\cN A B (64*(k+1))=Py (lm A k) (lm B k) c):=⟨hl,hs⟩;clear hl hs;go_wp2
   go_region_law (refine VI (by rfl) 198 _ _ (by rfl) func198 (by kernel_rfl) (by kernel_rfl) XG XF #[.int .u64 (lm A k),.int .u64 (lm B k),.int .u64 c] (by rfl) _ (YH _ _ _ hcl _) ?_)
   all_goals
    go_wp2;obtain⟨r0,r1,r2,r3,hb⟩:=R.out;obtain⟨hl,hs⟩:=S.out
    go_roundg g
    case measure=>omega
    case rel=>
     refine⟨k+1,by omega,by rw[hs],by go_num,(r0.setCell_far _ _ _ (by omega)).drew,(r1.setCell_far _ _ _ (by omega)).drew,(r2.setCell_far _ _ _ (by omega)).drew,?_,(ZN hb (by omega) _ _).drew⟩;have:=(r3.setCell k (.int .u64 (SE (lm A k) (lm B k) c:Nat))).drew;rw[XO (A+B) k _ (by omega) hl.symm]at this;exact this
theorem XV (A B:Nat)(w:World)(hB:B<2^256):
  Calls prog 154 #[.agg (Zc A),.agg (Zc B)] w fun e w'=>e= .returned (.tuple #[.agg (Zc (WC A B)),.int .i64 (bN A B 256:Nat)])/\Below w.heap.size w w':=by
 have HB:Hid (B<2^256):=hB;clear hB
 go_enter iO0,ntmps154
 go_wp2_with (first
  |refine Zl rfl 57 _ rfl _ rfl ?_
  |refine Zg rfl 57 rfl _ Zp ?_)
 go_loopg [7,9] 4 (fun g s7 s9 wr=> ∃k:Nat,k+g=4/\s7= .int .u64 (bN A B (64*k))/\s9= .int .i64 k/\Row wr w.heap.size (Zc A) 57/\Row wr (w.heap.size+1) (Zc B) 57/\Row wr (w.heap.size+1+1) (Zc 0) 57/\Row wr (w.heap.size+1+1+1) (Zc ((WC A B)%2^(64*k))) 57/\Below w.heap.size w wr)
 case atStart=>
  refine⟨0,by omega,by rw[show bN A B (64*0)=0 by simp[bN,aP0]];rfl,rfl,(Row.two rfl).alloc _,Row.two (by simp),Row.one (by simp),?_,(YD _ _ _).alloc (by simp;omega) _⟩;rw[show(WC A B)%2^(64*0)=0 by simp[aP0]];exact Row.here (by simp)
 case round=>
  obtain⟨k,hk,rfl,rfl,r0,r1,r2,r3,hb⟩:=hrel
  cases gk with
  |zero=>
   obtain rfl:k=4:=by omega
   rw[show(WC A B)%2^(64*4)=(WC A B)%2^256 from rfl,Yl]at r3;clear hk;have hx: ¬((4:Int)<4):=by omega
   have hcl:=IY A B (64*4);rw[show 64*4=256 from rfl]at hcl ⊢;have HC:Hid (∃c,bN A B 256=c):=⟨_,rfl⟩;obtain⟨c,hC⟩:=HC.out;rw[hC]at hcl ⊢;have HC:Hid (bN A B 256=c):=hC;clear hC
   go_wp2_with (first
    |refine Zj rfl 57 _ rfl _ rfl r3 4 _ b_ (by exact Zd) ?_
    |refine Zr rfl 57 _ _ rfl _ _ rfl rfl r2 (by exact Zd) (by simp only[Zo]) (Zu _) ?_)
   refine Z9 rfl _ rfl (r2.setRow _) 4 _ b_ (by exact Zd) rfl _ rfl ⟨by rw[HC.out];rfl,Zq hb (by omega) _⟩
  |succ g=>
   have hlt:(k:Int)<4:=by omega
   have hc0:=ZV r0 k (by omega);have hc1:=ZV r1 k (by omega);have hc3:=ZV r3 k (by omega);have hf3:=r3.frozen k;have R:Aside (Row wr w.heap.size (Zc A) 57/\Row wr (w.heap.size+1) (Zc B) 57/\Row wr (w.heap.size+1+1) (Zc 0) 57/\Row wr (w.heap.size+1+1+1) (Zc ((WC A B)%2^(64*k))) 57/\Below w.heap.size w wr):=⟨r0,r1,r2,r3,hb⟩;clear r0 r1 r2 r3 hb;have hcl:=IY A B (64*k);have hl:=I0 A B k (by omega) HB.out;have hs:=Mh A B k;generalize bN A B (64*k)=c at*;have S:Aside (lm (WC A B) k=yW (lm A k) (lm B k) c/\bN A B (64*(k+1))=ww (lm A k) (lm B k) c):=⟨hl,hs⟩;clear hl hs;go_wp2
   go_region_law (refine VI (by rfl) 191 _ _ (by rfl) func191 (by kernel_rfl) (by kernel_rfl) Mn Mm #[.int .u64 (lm A k),.int .u64 (lm B k),.int .u64 c] (by rfl) _ (LJ _ _ _ hcl _) ?_)
   all_goals
    go_wp2;obtain⟨r0,r1,r2,r3,hb⟩:=R.out;obtain⟨hl,hs⟩:=S.out
    go_roundg g
    case measure=>omega
    case rel=>
     refine⟨k+1,by omega,by rw[hs],by go_num,(r0.setCell_far _ _ _ (by omega)).drew,(r1.setCell_far _ _ _ (by omega)).drew,(r2.setCell_far _ _ _ (by omega)).drew,?_,(ZN hb (by omega) _ _).drew⟩;have:=(r3.setCell k (.int .u64 (yW (lm A k) (lm B k) c:Nat))).drew;rw[XO (WC A B) k _ (by omega) hl.symm]at this;exact this
theorem W5 (X Y:Nat):Zc X=Zc Y↔X%2^256=Y%2^256:=⟨IW,fun h=>by rw[<-Yl X,<-Yl Y,h]⟩
theorem I8 (X Y:Nat):(lm X 0=lm Y 0/\lm X 1=lm Y 1/\lm X 2=lm Y 2/\lm X 3=lm Y 3)↔X%2^256=Y%2^256:=by
 rw[<-W5];constructor
 ·rintro⟨h0,h1,h2,h3⟩;unfold Zc;rw[h0,h1,h2,h3]
 ·intro h
  have hl: ∀i,i<4->lm X i=lm Y i:=fun i hi=>by
   have h1:=Yh X i hi;rw[h,Yh Y i hi]at h1;simp only[aL0,Value.int.injEq,true_and]at h1;omega
  exact⟨hl 0 (by omega),hl 1 (by omega),hl 2 (by omega),hl 3 (by omega)⟩
theorem Qn (X Y:Nat)(w:World):(Op.equalIn 10000 57 (.agg (Zc X)) (.agg (Zc Y))).run prog w= .ok (decide (X%2^256=Y%2^256)) w:=by
 have h:=I8 X Y;rw[show decide (X%2^256=Y%2^256)=decide (lm X 0=lm Y 0/\lm X 1=lm Y 1/\lm X 2=lm Y 2/\lm X 3=lm Y 3)from cK0.2 h.symm];clear h;have u3:=dV0;have a3:=eG0;have z3:=cA0;unfold Zc;rw[show(10000:Nat)=9999+1 from rfl,Op.equalIn];simp only[p_,V_ b_,k_];simp only[Std.Legacy.Range.forIn_eq_forIn_range',Std.Legacy.Range.size,Nat.sub_zero,Nat.add_sub_cancel,bR0,List.range'_succ,List.range'_zero,List.forIn_cons,List.forIn_nil]
 go_simp
 by_cases h1:lm X 0=lm Y 0<;>by_cases h2:lm X 1=lm Y 1<;>by_cases h3:lm X 2=lm Y 2<;>by_cases h4:lm X 3=lm Y 3<;>simp[h1,h2,h3,h4]<;>omega
theorem ZG {o:Oper}{ρ:Operand->Value}(x y:Operand)(u:TypeId)(ho:o.op= .binOp .eql 57 x y u)(X Y:Nat)(hx:ρ x= .agg (Zc X))(hy:ρ y= .agg (Zc Y))(w:World):
  (execOp ρ o).run prog w= .ok (.value (.bool (decide (X%2^256=Y%2^256)))) w:=by
 unfold execOp;simp only[ho,hx,hy];simp[eqGuard,run_eql_struct,Qn]
theorem Z5 {o:Oper}{ρ:Operand->Value}(x y:Operand)(u:TypeId)(ho:o.op= .binOp .neq 57 x y u)(X Y:Nat)(hx:ρ x= .agg (Zc X))(hy:ρ y= .agg (Zc Y))(w:World):
  (execOp ρ o).run prog w= .ok (.value (.bool (!decide (X%2^256=Y%2^256)))) w:=by
 unfold execOp;simp only[ho,hx,hy];simp[eqGuard,run_neq_struct,Qn]
theorem Zy {P:Program}{ops:Array Oper}{rest:List Oper}{o:Oper}{a:Act}{w:World}{Q:Exit->Act->World->Prop}(hgd:o.guard=none)(v:Value)
  (hr:(execOp a.eval o).run P w= .ok (.value v) w)(h:wpList P ops Q rest (a.put o.dst v) w):wpList P ops Q (o::rest) a w:=
 gQ0 hgd fun _ hK=>by unfold Oper.wp;rw[hr];exact hK _ _ h
theorem Ri (n:Nat)(h:n<18446744073709551616):Zc n=#[.int .u64 n,.int .u64 0,.int .u64 0,.int .u64 0]:=by
 unfold Zc lm;rw[show 64*0=0 from rfl,W_,bR0,g_ (show n<2^64 from h),F_ (l_ h (by decide)),F_ (l_ h (by decide)),F_ (l_ h (by decide))];rfl
theorem Xl (n:Int)(w:World)(h1:n<9223372036854775808):
  Calls prog 57 #[.int .i64 n] w fun e w'=>e= .returned (.agg (Zc n.toNat))/\Below w.heap.size w w':=by
 rw[Ri n.toNat (by omega)];by_cases h0:0<=n
 ·rw[Int.toNat_of_nonneg h0];have hm:max n 0=n:=by omega
  go_enter gZ0,ntmps57
  go_wp2;exact ZM rfl _ rfl (Row.here rfl) 4 _ b_ (by exact Zd) rfl ⟨rfl,Z6 _⟩
 ·rw[show((n.toNat:Nat):Int)=0 by omega];have hm:max n 0=0:=by omega
  go_enter gZ0,ntmps57
  go_wp2;exact ZM rfl _ rfl (Row.here rfl) 4 _ b_ (by exact Zd) rfl ⟨rfl,Z6 _⟩
theorem Wk (A B:Nat)(w:World)(hA:A<2^256)(hB:B<2^256):
  Calls prog 112 #[.agg (Zc A),.agg (Zc B)] w fun e w'=>e= .returned (.int .i64 (Wn A B))/\Below w.heap.size w w':=by
 have rA:Row ((w.alloc (.cells (Zc A) 57)).alloc (.cells (Zc B) 57)) w.heap.size (Zc A) 57:=Row.one rfl;have rB:Row ((w.alloc (.cells (Zc A) 57)).alloc (.cells (Zc B) 57)) (w.heap.size+1) (Zc B) 57:=Row.here (by simp);have HB:Hid (B<2^256):=hB;have ma:=g_ hA;have mb:=g_ hB;by_cases heq:A=B
 ·subst heq;clear ma mb hA hB
  go_enter iH0,ntmps112
  go_wp2_with (first
   |refine Zl rfl 57 _ rfl _ rfl ?_
   |refine Zj rfl 57 _ rfl _ rfl rA 4 _ b_ (by exact Zd) ?_
   |refine Zj rfl 57 _ rfl _ rfl rB 4 _ b_ (by exact Zd) ?_
   |refine Zy rfl (.bool true) ((ZG _ _ _ rfl A A rfl rfl _).trans (by rw[d_ rfl])) ?_)
  go_ret;exact⟨by simp[Wn],Z1 _ _⟩
 ·have HD:Hid (decide (A%2^256=B%2^256)=false):=by show _=_;rw[ma,mb];exact e_ heq
  have HN:Hid (bN A B 256=if A<B then 1 else 0):=by show _=_;unfold bN;rw[ma,mb]
  by_cases hlt:A<B
  ·have HC:Hid (Wn A B= -1):=by show _=_;unfold Wn;rw[j_ hlt]
   have hn:((bN A B 256:Nat):Int)=1:=by rw[HN.out,j_ hlt];rfl
   clear HN hlt heq ma mb hA hB
   go_enter iH0,ntmps112
   go_wp2_with (first
    |refine Zl rfl 57 _ rfl _ rfl ?_
    |refine Zj rfl 57 _ rfl _ rfl rA 4 _ b_ (by exact Zd) ?_
    |refine Zj rfl 57 _ rfl _ rfl rB 4 _ b_ (by exact Zd) ?_
    |refine Zy rfl (.bool false) ((ZG _ _ _ rfl A B rfl rfl _).trans (by rw[HD.out])) ?_
    |(go_at_call 154;refine(XV _ _ _ HB.out).mono ?_;rintro e w2 ⟨rfl,hb2⟩;have b2:=Zk (Z1 _ _) (c_ _) hb2;clear hb2)
    |refine Zg rfl 57 rfl _ Zp ?_
    |refine ZL rfl 57 _ _ rfl _ rfl rfl _ _ (by exact Zd) (by simp only[Zo]) (Zu _) ?_)
   go_ret;exact⟨by rw[HC.out];rfl,b2.alloc b2.size _⟩
  ·have HC:Hid (Wn A B=1):=by show _=_;unfold Wn;rw[i_ hlt,j_ (by omega)]
   have hn:((bN A B 256:Nat):Int)=0:=by rw[HN.out,i_ hlt];rfl
   clear HN hlt heq ma mb hA hB
   go_enter iH0,ntmps112
   go_wp2_with (first
    |refine Zl rfl 57 _ rfl _ rfl ?_
    |refine Zj rfl 57 _ rfl _ rfl rA 4 _ b_ (by exact Zd) ?_
    |refine Zj rfl 57 _ rfl _ rfl rB 4 _ b_ (by exact Zd) ?_
    |refine Zy rfl (.bool false) ((ZG _ _ _ rfl A B rfl rfl _).trans (by rw[HD.out])) ?_
    |(go_at_call 154;refine(XV _ _ _ HB.out).mono ?_;rintro e w2 ⟨rfl,hb2⟩;have b2:=Zk (Z1 _ _) (c_ _) hb2;clear hb2)
    |refine Zg rfl 57 rfl _ Zp ?_
    |refine ZL rfl 57 _ _ rfl _ rfl rfl _ _ (by exact Zd) (by simp only[Zo]) (Zu _) ?_)
   go_ret;exact⟨by rw[HC.out];rfl,b2.alloc b2.size _⟩
def LA (A:Nat):Int:=if A<9223372036854775808 then A else 0
def LB (A:Nat):Bool:=decide (A<9223372036854775808)
theorem LR (A:Nat):lm A 0=A%18446744073709551616:=by unfold lm;simp
theorem LS (A:Nat)(w:World)(hA:A<2^256)(h:18446744073709551616<=A):
  Calls prog 149 #[.agg (Zc A)] w fun e w'=>e= .returned (.tuple #[.int .i64 0,.bool false])/\Below w.heap.size w w':=by
 have rA:=Row.new w (Zc A) 57;have hc0:=ZV rA 0 (by omega)
 have HV:Hid ((!decide (A%2^256=lm A 0%2^256))=true):=by
  show _=_
  rw[LR,g_ hA,e_];rfl;intro e;omega
 clear hA h
 go_enter func149,ntmps149
 go_wp2_with (first
  |refine Zl rfl 57 _ rfl _ rfl ?_
  |refine Zj rfl 57 _ rfl _ rfl rA 4 _ b_ (by exact Zd) ?_
  |refine Zy rfl (.bool true) ((Z5 _ _ _ rfl A (lm A 0) rfl (by rw[Ri _ (Xj A 0)];rfl) _).trans (by rw[HV.out])) ?_)
 go_ret2;exact⟨rfl,Z6 _⟩
theorem I9 (A:Nat)(w:World)(h:A<18446744073709551616):
  Calls prog 149 #[.agg (Zc A)] w fun e w'=>e= .returned (.tuple #[.int .i64 (LA A),.bool (LB A)])/\Below w.heap.size w w':=by
 have rA:=Row.new w (Zc A) 57;have hc0:=ZV rA 0 (by omega);rw[LR,g_ h]at hc0
 have HV:Hid ((!decide (A%2^256=A%2^256))=false):=by show _=_;simp
 have HL:Hid (Zc A=#[.int .u64 A,.int .u64 0,.int .u64 0,.int .u64 0]):=Ri A h;by_cases h63:A<9223372036854775808
 ·have h1: ¬((9223372036854775807:Int)<A):=by omega
  have HI:Hid (LA A=A/\LB A=true):=⟨j_ h63,d_ h63⟩;clear h h63
  go_enter func149,ntmps149
  go_wp2_with (first
   |refine Zl rfl 57 _ rfl _ rfl ?_
   |refine Zj rfl 57 _ rfl _ rfl rA 4 _ b_ (by exact Zd) ?_
   |refine Zy rfl (.bool false) ((Z5 _ _ _ rfl A A rfl (by rw[HL.out];rfl) _).trans (by rw[HV.out])) ?_)
  go_ret2;exact⟨by rw[HI.out.1,HI.out.2];rfl,Z6 _⟩
 ·have h1:(9223372036854775807:Int)<A:=by omega
  have HI:Hid (LA A=0/\LB A=false):=⟨i_ h63,e_ h63⟩;clear h h63
  go_enter func149,ntmps149
  go_wp2_with (first
   |refine Zl rfl 57 _ rfl _ rfl ?_
   |refine Zj rfl 57 _ rfl _ rfl rA 4 _ b_ (by exact Zd) ?_
   |refine Zy rfl (.bool false) ((Z5 _ _ _ rfl A A rfl (by rw[HL.out];rfl) _).trans (by rw[HV.out])) ?_)
  go_ret2;exact⟨by rw[HI.out.1,HI.out.2];rfl,Z6 _⟩
theorem Ha (A:Nat)(w:World)(hA:A<2^256):
  Calls prog 149 #[.agg (Zc A)] w (Rt (.tuple #[.int .i64 (LA A),.bool (LB A)]) w):=by
 by_cases h:A<18446744073709551616
 ·exact I9 A w h
 ·rw[show LA A=0 from i_ (by omega),show LB A=false from e_ (by omega)];exact LS A w hA (by omega)
theorem Qo (A:Nat):bitLen A<=63↔A<9223372036854775808:=by
 have h:=bitLen_spec A;constructor
 ·intro hl;exact l_ h.1 (aF0 (by decide) hl)
 ·intro hA;unfold bitLen
  split
  ·omega
  ·rename_i h0
   have:=(hB0 h0).2 (show A<2^63 from hA);omega
theorem O6 (A:Nat)(w:World)(hA:A<2^256):
  Calls prog 50 #[.agg (Zc A)] w (Rt (.tuple #[.int .i64 (LA A),.bool (LB A)]) w):=by
 by_cases h:A<9223372036854775808
 ·rw[show LA A=A from j_ h,show LB A=true from d_ h];exact I7 A w h ((Qo A).2 h)
 ·rw[show LA A=0 from i_ h,show LB A=false from e_ h];refine DE A w hA ?_;have:=Qo A;omega
theorem Yo {P:Program}{o:Oper}{ρ:Operand->Value}(t:TypeId)(x ix:Operand)(ho:o.op= .index t x ix)(hu:P.underlying t=some .string)(S:ByteArray)(hx:ρ x= .string S)
  (hS:S.data.toList.map UInt8.toNat=(List.range 256).map bitLen)(k:IntKind)(i:Int)(hi:ρ ix= .int k i)(h0:0<=i)(h1:i<256)(w:World):
  (execOp ρ o).run P w= .ok (.value (.int .u8 (bitLen i.toNat))) w:=by
 have hsz:S.size=256:=by
  have:=cY0 List.length hS
  simpa using this
 have hlt:i.toNat<S.size:=by omega
 have hget:(S[i.toNat]'hlt).toNat=bitLen i.toNat:=by
  have h2:=cY0 (fun l:List Nat=>l[i.toNat]?) hS;simp only[cV0]at h2;rw[hC0 (by omega)]at h2
  have h3:S.data.toList[i.toNat]?=some (S[i.toNat]'hlt):=by
   rw[o_];exact S_ hlt
  rw[h3]at h2
  simpa using h2
 unfold execOp;simp only[ho,hx,hi,p_];rw[run_index_string w t S k i hu,dif_pos ⟨h0,by omega⟩,hget];rfl
theorem WE {k:IntKind}{a b:Int}(h:a=b):Ending.returned (.int k a)= .returned (.int k b):=by rw[h]
theorem YZ (q n:Nat)(hq:q<=8)(hn:n<=56):wrap64 ((n:Int)+wrap64 (q:Int))=((n+q:Nat):Int):=by unfold wrap64;omega
theorem Rj (q:Nat)(hq:q<=8):wrap64 (wrap64 (q:Int))=(q:Int):=by unfold wrap64;omega
set_option maxRecDepth 1000000 in
theorem DF (x:Nat)(w:World)(h0:0<=x)(h1:x<256):
  Calls prog 153 #[.int .u64 x] w fun e w'=>e= .returned (.int .i64 (bitLen x))/\w'=w:=by
 have t0: ¬(4294967296:Int)<=(x:Int):=by omega
 have t1: ¬(65536:Int)<=(x:Int):=by omega
 have t2: ¬(256:Int)<=(x:Int):=by omega
 have HX:Hid (0<=(x:Int)/\(x:Int)<256):=⟨by omega,by omega⟩;have HB8:Hid (bitLen (x/1)<=8):=gJ0 _ (by omega)
 have HB:Hid (bitLen x=0+bitLen (x/1)):=by
  show _=_
  rw[bR0];omega
 clear h0 h1
 go_enter func153,iI0
 go_wp2_with (first
  |(refine Zy rfl _ (Yo 9 _ _ rfl N_ _ rfl ?_ _ _ rfl ?_ ?_ _) ?_;(· kernel_rfl);(· exact HX.out.1);(· exact HX.out.2)))
 go_ret;have hb:=HB8.out;rw[bR0]at hb;exact⟨WE (Rj _ hb),rfl⟩
set_option maxRecDepth 1000000 in
theorem DG (x:Nat)(w:World)(h0:256<=x)(h1:x<65536):
  Calls prog 153 #[.int .u64 x] w fun e w'=>e= .returned (.int .i64 (bitLen x))/\w'=w:=by
 have t0: ¬(4294967296:Int)<=(x:Int):=by omega
 have t1: ¬(65536:Int)<=(x:Int):=by omega
 have t2:(256:Int)<=(x:Int):=by omega
 have HX:Hid (0<=(x:Int)/256/\(x:Int)/256<256):=⟨by omega,by omega⟩;have HB8:Hid (bitLen (x/256)<=8):=gJ0 _ (by omega)
 have HB:Hid (bitLen x=8+bitLen (x/256)):=by
  show _=_
  exact fB0 x 8 (show x/256≠0 by omega)
 clear h0 h1
 go_enter func153,iI0
 go_wp2_with (first
  |(refine Zy rfl _ (Yo 9 _ _ rfl N_ _ rfl ?_ _ _ rfl ?_ ?_ _) ?_;(· kernel_rfl);(· exact HX.out.1);(· exact HX.out.2)))
 go_ret;refine⟨WE ?_,rfl⟩;rw[HB.out];exact YZ _ 8 HB8.out (by decide)
set_option maxRecDepth 1000000 in
theorem DH (x:Nat)(w:World)(h0:65536<=x)(h1:x<16777216):
  Calls prog 153 #[.int .u64 x] w fun e w'=>e= .returned (.int .i64 (bitLen x))/\w'=w:=by
 have t0: ¬(4294967296:Int)<=(x:Int):=by omega
 have t1:(65536:Int)<=(x:Int):=by omega
 have t2: ¬(256:Int)<=(x:Int)/65536:=by omega
 have HX:Hid (0<=(x:Int)/65536/\(x:Int)/65536<256):=⟨by omega,by omega⟩;have HB8:Hid (bitLen (x/65536)<=8):=gJ0 _ (by omega)
 have HB:Hid (bitLen x=16+bitLen (x/65536)):=by
  show _=_
  exact fB0 x 16 (show x/65536≠0 by omega)
 clear h0 h1
 go_enter func153,iI0
 go_wp2_with (first
  |(refine Zy rfl _ (Yo 9 _ _ rfl N_ _ rfl ?_ _ _ rfl ?_ ?_ _) ?_;(· kernel_rfl);(· exact HX.out.1);(· exact HX.out.2)))
 go_ret;refine⟨WE ?_,rfl⟩;rw[HB.out];exact YZ _ 16 HB8.out (by decide)
set_option maxRecDepth 1000000 in
theorem DI (x:Nat)(w:World)(h0:16777216<=x)(h1:x<4294967296):
  Calls prog 153 #[.int .u64 x] w fun e w'=>e= .returned (.int .i64 (bitLen x))/\w'=w:=by
 have t0: ¬(4294967296:Int)<=(x:Int):=by omega
 have t1:(65536:Int)<=(x:Int):=by omega
 have t2:(256:Int)<=(x:Int)/65536:=by omega
 have HX:Hid (0<=(x:Int)/65536/256/\(x:Int)/65536/256<256):=⟨by omega,by omega⟩
 have HE:Hid (x/65536/256=x/16777216):=by show _=_;omega
 have HB8:Hid (bitLen (x/16777216)<=8):=gJ0 _ (by omega)
 have HB:Hid (bitLen x=24+bitLen (x/16777216)):=by
  show _=_
  exact fB0 x 24 (show x/16777216≠0 by omega)
 clear h0 h1
 go_enter func153,iI0
 go_wp2_with (first
  |(refine Zy rfl _ (Yo 9 _ _ rfl N_ _ rfl ?_ _ _ rfl ?_ ?_ _) ?_;(· kernel_rfl);(· exact HX.out.1);(· exact HX.out.2)))
 go_ret;refine⟨WE ?_,rfl⟩;have hb:=HB8.out;rw[HB.out];rw[<-HE.out]at hb ⊢;exact YZ _ 24 hb (by decide)
set_option maxRecDepth 1000000 in
theorem DJ (x:Nat)(w:World)(h0:4294967296<=x)(h1:x<1099511627776):
  Calls prog 153 #[.int .u64 x] w fun e w'=>e= .returned (.int .i64 (bitLen x))/\w'=w:=by
 have t0:(4294967296:Int)<=(x:Int):=by omega
 have t1: ¬(65536:Int)<=(x:Int)/4294967296:=by omega
 have t2: ¬(256:Int)<=(x:Int)/4294967296:=by omega
 have HX:Hid (0<=(x:Int)/4294967296/\(x:Int)/4294967296<256):=⟨by omega,by omega⟩;have HB8:Hid (bitLen (x/4294967296)<=8):=gJ0 _ (by omega)
 have HB:Hid (bitLen x=32+bitLen (x/4294967296)):=by
  show _=_
  exact fB0 x 32 (show x/4294967296≠0 by omega)
 clear h0 h1
 go_enter func153,iI0
 go_wp2_with (first
  |(refine Zy rfl _ (Yo 9 _ _ rfl N_ _ rfl ?_ _ _ rfl ?_ ?_ _) ?_;(· kernel_rfl);(· exact HX.out.1);(· exact HX.out.2)))
 go_ret;refine⟨WE ?_,rfl⟩;rw[HB.out];exact YZ _ 32 HB8.out (by decide)
set_option maxRecDepth 1000000 in
theorem DK (x:Nat)(w:World)(h0:1099511627776<=x)(h1:x<281474976710656):
  Calls prog 153 #[.int .u64 x] w fun e w'=>e= .returned (.int .i64 (bitLen x))/\w'=w:=by
 have t0:(4294967296:Int)<=(x:Int):=by omega
 have t1: ¬(65536:Int)<=(x:Int)/4294967296:=by omega
 have t2:(256:Int)<=(x:Int)/4294967296:=by omega
 have HX:Hid (0<=(x:Int)/4294967296/256/\(x:Int)/4294967296/256<256):=⟨by omega,by omega⟩
 have HE:Hid (x/4294967296/256=x/1099511627776):=by show _=_;omega
 have HB8:Hid (bitLen (x/1099511627776)<=8):=gJ0 _ (by omega)
 have HB:Hid (bitLen x=40+bitLen (x/1099511627776)):=by
  show _=_
  exact fB0 x 40 (show x/1099511627776≠0 by omega)
 clear h0 h1
 go_enter func153,iI0
 go_wp2_with (first
  |(refine Zy rfl _ (Yo 9 _ _ rfl N_ _ rfl ?_ _ _ rfl ?_ ?_ _) ?_;(· kernel_rfl);(· exact HX.out.1);(· exact HX.out.2)))
 go_ret;refine⟨WE ?_,rfl⟩;have hb:=HB8.out;rw[HB.out];rw[<-HE.out]at hb ⊢;exact YZ _ 40 hb (by decide)
set_option maxRecDepth 1000000 in
theorem DN (x:Nat)(w:World)(h0:281474976710656<=x)(h1:x<72057594037927936):
  Calls prog 153 #[.int .u64 x] w fun e w'=>e= .returned (.int .i64 (bitLen x))/\w'=w:=by
 have t0:(4294967296:Int)<=(x:Int):=by omega
 have t1:(65536:Int)<=(x:Int)/4294967296:=by omega
 have t2: ¬(256:Int)<=(x:Int)/4294967296/65536:=by omega
 have HX:Hid (0<=(x:Int)/4294967296/65536/\(x:Int)/4294967296/65536<256):=⟨by omega,by omega⟩
 have HE:Hid (x/4294967296/65536=x/281474976710656):=by show _=_;omega
 have HB8:Hid (bitLen (x/281474976710656)<=8):=gJ0 _ (by omega)
 have HB:Hid (bitLen x=48+bitLen (x/281474976710656)):=by
  show _=_
  exact fB0 x 48 (show x/281474976710656≠0 by omega)
 clear h0 h1
 go_enter func153,iI0
 go_wp2_with (first
  |(refine Zy rfl _ (Yo 9 _ _ rfl N_ _ rfl ?_ _ _ rfl ?_ ?_ _) ?_;(· kernel_rfl);(· exact HX.out.1);(· exact HX.out.2)))
 go_ret;refine⟨WE ?_,rfl⟩;have hb:=HB8.out;rw[HB.out];rw[<-HE.out]at hb ⊢;exact YZ _ 48 hb (by decide)
set_option maxRecDepth 1000000 in
theorem DO (x:Nat)(w:World)(h0:72057594037927936<=x)(h1:x<18446744073709551616):
  Calls prog 153 #[.int .u64 x] w fun e w'=>e= .returned (.int .i64 (bitLen x))/\w'=w:=by
 have t0:(4294967296:Int)<=(x:Int):=by omega
 have t1:(65536:Int)<=(x:Int)/4294967296:=by omega
 have t2:(256:Int)<=(x:Int)/4294967296/65536:=by omega
 have HX:Hid (0<=(x:Int)/4294967296/65536/256%256/\(x:Int)/4294967296/65536/256%256<256):=⟨by omega,by omega⟩
 have HE:Hid (x/4294967296/65536/256%256=x/72057594037927936):=by show _=_;omega
 have HB8:Hid (bitLen (x/72057594037927936)<=8):=gJ0 _ (by omega)
 have HB:Hid (bitLen x=56+bitLen (x/72057594037927936)):=by
  show _=_
  exact fB0 x 56 (show x/72057594037927936≠0 by omega)
 clear h0 h1
 go_enter func153,iI0
 go_wp2_with (first
  |(refine Zy rfl _ (Yo 9 _ _ rfl N_ _ rfl ?_ _ _ rfl ?_ ?_ _) ?_;(· kernel_rfl);(· exact HX.out.1);(· exact HX.out.2)))
 go_ret;refine⟨WE ?_,rfl⟩;have hb:=HB8.out;rw[HB.out];rw[<-HE.out]at hb ⊢;exact YZ _ 56 hb (by decide)
theorem Tv (x:Nat)(w:World)(h:x<18446744073709551616):
  Calls prog 153 #[.int .u64 x] w fun e w'=>e= .returned (.int .i64 (bitLen x))/\w'=w:=by
 by_cases h0:x<256
 ·exact DF x w (by omega) h0
 by_cases h1:x<65536
 ·exact DG x w (by omega) h1
 by_cases h2:x<16777216
 ·exact DH x w (by omega) h2
 by_cases h3:x<4294967296
 ·exact DI x w (by omega) h3
 by_cases h4:x<1099511627776
 ·exact DJ x w (by omega) h4
 by_cases h5:x<281474976710656
 ·exact DK x w (by omega) h5
 by_cases h6:x<72057594037927936
 ·exact DN x w (by omega) h6
 exact DO x w (by omega) h
theorem LT (x:Nat)(h:x<18446744073709551616):bitLen x<=64:=by
 unfold bitLen
 split
 ·omega
 ·rename_i h0
  have:=(hB0 h0).2 (show x<2^64 from h);omega
theorem Ez (A k:Nat)(h:A<2^(64*(k+1))):lm A k=A/2^(64*k):=by
 unfold lm;refine g_ (aE0 ?_);rw[<-Z_];exact h
theorem LU (A k:Nat)(h:A<2^(64*(k+1)))(h0:lm A k≠0):bitLen A=64*k+bitLen (lm A k):=by
 rw[Ez A k h]at h0 ⊢;exact fB0 A (64*k) h0
theorem DP (A k:Nat)(h:A<2^(64*(k+1)))(h0:lm A k=0):A<2^(64*k):=by
 rw[Ez A k h]at h0;exact(Nat.div_eq_zero_iff_lt (w_ _)).1 h0
theorem Vq (A:Nat)(w:World)(hA:A<2^256):
  Calls prog 111 #[.agg (Zc A)] w fun e w'=>e= .returned (.int .i64 (bitLen A))/\Below w.heap.size w w':=by
 have HA:Hid (A<2^256):=hA;clear hA
 go_enter func111,ntmps111
 go_wp2_with (first
  |refine Zl rfl 57 _ rfl _ rfl ?_)
 go_loopg [5] 4 (fun g s5 wr=> ∃k:Nat,k+g=4/\s5= .int .i64 k/\A<2^(64*g)/\Row wr w.heap.size (Zc A) 57/\Below w.heap.size w wr)
 case atStart=>exact⟨0,by omega,rfl,HA.out,Row.new _ _ _,Z6 _⟩
 case round=>
  obtain⟨k,hk,rfl,hlt,r0,hb⟩:=hrel
  cases gk with
  |zero=>
   obtain rfl:k=4:=by omega
   obtain rfl:A=0:=by simpa using hlt
   clear hlt hk HA;have hx: ¬((4:Int)<4):=by omega
   go_wp2;go_ret;exact⟨rfl,hb⟩
  |succ g=>
   have hk4:(k:Int)<4:=by omega
   have hc0:=ZV r0 g (by omega);have hsub:(3:Int)-k=g:=by omega
   have hl:=Xj A g;by_cases h0:lm A g=0
   ·have R:Aside (A<2^(64*g)/\Row wr w.heap.size (Zc A) 57/\Below w.heap.size w wr):=⟨DP A g hlt h0,r0,hb⟩;rw[h0]at hc0;clear r0 hb hlt HA h0 hl;go_wp2;obtain⟨h1,r0,hb⟩:=R.out
    go_roundg g
    case measure=>omega
    case rel=>exact⟨k+1,by omega,by go_num,h1,r0,hb⟩
   ·have R:Aside (bitLen A=64*g+bitLen (lm A g)/\bitLen (lm A g)<=64/\Below w.heap.size w wr):=⟨LU A g hlt h0,?_,hb⟩
    ·have hne:((lm A g:Nat):Int)≠0:=by omega
     have HL:Hid (lm A g<18446744073709551616):=hl;clear r0 hb hlt HA h0 hl
     go_wp2_with (first
      |(go_at_call 153;refine(Tv _ _ HL.out).mono ?_;rintro e w2 ⟨rfl,rfl⟩))
     go_ret;obtain⟨h1,h2,hb⟩:=R.out;refine⟨WE ?_,hb⟩;rw[h1];unfold wrap64;omega
    ·exact LT _ hl
end Go.Proofs.YtnagnkhbamhfmaaGreatDoor
