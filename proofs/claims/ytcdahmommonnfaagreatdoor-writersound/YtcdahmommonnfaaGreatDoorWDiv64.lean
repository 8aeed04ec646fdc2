import Derived.Test.YtcdahmommonnfaaGreatDoorGF
set_option maxRecDepth 100000
set_option maxHeartbeats 8000000
namespace Go.Proofs.YtcdahmommonnfaaGreatDoor
set_option linter.all false
open Go.Proofs.Tryz
open Go.RowKit
def d32 (u x y:Nat):Nat:=(u*4294967296+x)/y
structure Gu (u x y q r:Nat):Prop where
 sum:q*(y/4294967296)+r=u
 le:d32 u x y<=q
theorem NQ (y q:Nat):q*y=q*(y/4294967296)*4294967296+q*(y%4294967296):=by
 conv=>lhs;rw[<-Nat.div_add_mod y 4294967296]
 rw[Nat.mul_add,Nat.mul_comm 4294967296,Nat.mul_assoc]
theorem Q9 (u x y:Nat)(hx:x<4294967296)(hy:9223372036854775808<=y):Gu u x y (u/(y/4294967296)) (u-u/(y/4294967296)*(y/4294967296)):=by
 have hv:0<y/4294967296:=by omega
 refine⟨by have:=Nat.div_mul_le_self u (y/4294967296);omega,?_⟩;rw[Nat.le_div_iff_mul_le hv];have h1:d32 u x y*y<=u*4294967296+x:=Nat.div_mul_le_self _ _;rw[NQ]at h1;generalize d32 u x y*(y/4294967296)=p at*;omega
theorem EY (u x y q:Nat)(hu:u<y)(hx:x<4294967296)(hq:4294967296<=q):d32 u x y<q:=by
 unfold d32;rw[Nat.div_lt_iff_lt_mul (by omega)];have:4294967296*y<=q*y:=Nat.mul_le_mul_right _ hq;omega
theorem TI (u x y q r:Nat)(h:Gu u x y q r)(hy:0<y)(hc:4294967296*r+x<q*(y%4294967296)):d32 u x y<q:=by
 unfold d32;rw[Nat.div_lt_iff_lt_mul hy,NQ y q];have:=h.sum;generalize q*(y/4294967296)=p at*;omega
theorem Uf (u x y q r:Nat)(h:Gu u x y q r)(hy:0<y)(hc:q*(y%4294967296)<=4294967296*r+x):q=d32 u x y:=by
 refine Nat.le_antisymm ?_ h.le;unfold d32;rw[Nat.le_div_iff_mul_le hy,NQ y q];have:=h.sum;generalize q*(y/4294967296)=p at*;omega
theorem TJ (u x y q r:Nat)(h:Gu u x y q r)(hc:d32 u x y<q):Gu u x y (q-1) (r+y/4294967296):=by
 refine⟨?_,by omega⟩;have:=h.sum;obtain⟨t,rfl⟩: ∃t,q=t+1:=⟨q-1,by omega⟩
 rw[Nat.add_mul,Nat.one_mul]at this;rw[Nat.add_sub_cancel];omega
theorem VZ (u x y q r:Nat)(h:Gu u x y q r)(hu:u<y)(hr:4294967296<=r):q=d32 u x y:=by
 have hs:=h.sum
 have hq:q<4294967296:=by
  rcases Nat.lt_or_ge q 4294967296 with h1|h1
  ·exact h1
  ·have:4294967296*(y/4294967296)<=q*(y/4294967296):=Nat.mul_le_mul_right _ h1;omega
 refine Uf u x y q r h (by omega) ?_;have:q*(y%4294967296)<=4294967295*4294967295:=Nat.mul_le_mul (by omega) (by omega);omega
theorem Oo (u x y q r:Nat)(h:Gu u x y q r)(hu:u<18446744073709551616)(hy:9223372036854775808<=y):q<8589934592:=by
 have hs:=h.sum;rcases Nat.lt_or_ge q 8589934592 with h1|h1
 ·exact h1
 ·have:8589934592*(y/4294967296)<=q*(y/4294967296):=Nat.mul_le_mul_right _ h1;omega
theorem I8 (u x y:Nat)(hu:u<y)(hx:x<4294967296):d32 u x y<4294967296:=EY u x y _ hu hx (Nat.le_refl _)
theorem Bf (n y z:Nat)(hy:0<y):n/y*4294967296+((n-n/y*y)*4294967296+z)/y=(n*4294967296+z)/y:=by
 have h1:n/y*y<=n:=Nat.div_mul_le_self _ _;generalize n/y=d at*
 rw[Nat.sub_mul,show n*4294967296+z=(n*4294967296-d*y*4294967296+z)+y*(d*4294967296) by
  have:d*y*4294967296<=n*4294967296:=Nat.mul_le_mul_right _ h1;rw[show y*(d*4294967296)=d*y*4294967296 by rw[Nat.mul_comm y,Nat.mul_right_comm]]
  omega,Xq _ _ _ hy]
 omega
theorem GL (u x y z:Nat)(hy:0<y):d32 u x y*4294967296+d32 (u*4294967296+x-d32 u x y*y) z y=((u*4294967296+x)*4294967296+z)/y:=Bf (u*4294967296+x) y z hy
theorem K8 (x:Nat)(w:World)(h0:9223372036854775808<=x)(h1:x<18446744073709551616):
  Calls prog 241 #[.int .u64 x] w fun e w'=>e= .returned (.int .i64 0)/\w'=w:=by
 have hl:bitLen x=64:=SC x 63 h0 h1
 go_enter func241,ntmps241
 go_wp2_with fail
 refine(SF x _ h1).mono ?_;rintro e w2 ⟨rfl,rfl⟩;rw[hl];go_wp2;go_ret;exact⟨rfl,rfl⟩
theorem Pa (u x y:Nat)(hy:0<y):d32 u x y*y<=u*4294967296+x/\u*4294967296+x-d32 u x y*y<y:=by
 have h1:d32 u x y*y<=u*4294967296+x:=Nat.div_mul_le_self _ _;have h2:=Nat.lt_div_mul_add (a:=u*4294967296+x) hy;exact⟨h1,by show _-(u*4294967296+x)/y*y<y;omega⟩
theorem K9 (u x y:Nat)(hy:0<y)(hy2:y<18446744073709551616):
  IntKind.u64.wrap (IntKind.u64.wrap (IntKind.u64.wrap ((u:Int)*4294967296)+(x:Int))-IntKind.u64.wrap ((d32 u x y:Int)*(y:Int)))=((u*4294967296+x-d32 u x y*y:Nat):Int):=by
 obtain⟨h1,h2⟩:=Pa u x y hy;rw[show(d32 u x y:Int)*(y:Int)=((d32 u x y*y:Nat):Int) by simp];generalize d32 u x y*y=p at*;simp only[IntKind.wrap_u64];omega
theorem Oq (l y:Nat)(w:World)(hh:0<y):
  Calls prog 209 #[.int .u64 (0:Nat),.int .u64 l,.int .u64 y] w fun e w'=>(∃r:Int,e= .returned (.tuple #[.int .u64 (IntKind.u64.wrap ((l:Int).tdiv y)),.int .u64 r]))/\Below w.heap.size w w':=by
 go_enter func209,ntmps209
 go_wp2_with fail
 go_region
 all_goals
  go_wp2;go_ret2;exact⟨⟨_,rfl⟩,(Below.refl _ _).drew⟩
theorem Ot (h l y v v0 x0 x1 Q P d U Q2 P2 d0:Nat)(w:World)(h0:0<h)(hh:h<y)(hl:l<18446744073709551616)(hy:9223372036854775808<=y)(hy2:y<18446744073709551616)
  (ev:v=y/4294967296)(ev0:v0=y%4294967296)(ex1:x1=l/4294967296)(ex0:x0=l%4294967296)(eQ:Q=h/v)(eP:P=Q*v)(ed:d32 h x1 y=d)(eU:U=h*4294967296+x1-d*y)
  (eQ2:Q2=U/v)(eP2:P2=Q2*v)(ed0:d32 U x0 y=d0):
  Calls prog 209 #[.int .u64 h,.int .u64 l,.int .u64 y] w fun e w'=>(∃r:Int,e= .returned (.tuple #[.int .u64 ((d:Int)*4294967296+d0),.int .u64 r]))/\Below w.heap.size w w':=by
 have G0:Hid (Gu h x1 y Q (h-P)):=by
  have:=Q9 h x1 y (by omega) hy;rw[<-ev,<-eQ,<-eP]at this;exact this
 have hPle:P<=h:=by rw[eP,eQ];exact Nat.div_mul_le_self _ _
 have hPr:h-P<4294967296:=by
  have:=Nat.lt_div_mul_add (a:=h) (b:=v) (by omega);rw[eP,eQ];omega
 have hQ:Q<8589934592:=Oo h x1 y Q _ G0.out (by omega) hy;have hd1:=I8 h x1 y hh (by omega);have hv:2147483648<=v/\v<4294967296:=by omega
 have hv0:v0<4294967296:=by omega
 have hx1:x1<4294967296:=by omega
 have hx0:x0<4294967296:=by omega
 have td:(h:Int).tdiv (v:Int)=(Q:Int):=by rw[eQ];simp
 have tp:(Q:Int)*(v:Int)=(P:Int):=by rw[eP];simp
 have tv:(y:Int)/4294967296=(v:Int):=by rw[ev];simp
 have tv0:bits .and .u64 (y:Int) 4294967295=(v0:Int):=by rw[ev0];exact NH y hy2
 have tx1:(l:Int)/4294967296=(x1:Int):=by rw[ex1];simp
 have tx0:bits .and .u64 (l:Int) 4294967295=(x0:Int):=by rw[ex0];exact NH l hl
 have tl:(l:Int)/18446744073709551616=0:=by omega
 have tU:IntKind.u64.wrap (IntKind.u64.wrap (IntKind.u64.wrap ((h:Int)*4294967296)+(x1:Int))-IntKind.u64.wrap ((d:Int)*(y:Int)))=(U:Int):=by rw[eU,<-ed];exact K9 h x1 y (by omega) hy2
 have hUy:U<y:=by rw[eU,<-ed];exact(Pa h x1 y (by omega)).2
 have hd0:=I8 U x0 y hUy hx0
 have hg0:d<=Q:=by have:=G0.out.le;rw[ed]at this;exact this
 have G2:Hid (Gu U x0 y Q2 (U-P2)):=by
  have:=Q9 U x0 y hx0 hy;rw[<-ev,<-eQ2,<-eP2]at this;exact this
 have hP2:P2<=U:=by rw[eP2,eQ2];exact Nat.div_mul_le_self _ _
 have hPr2:U-P2<4294967296:=by
  have:=Nat.lt_div_mul_add (a:=U) (b:=v) (by omega);rw[eP2,eQ2];omega
 have td2:(U:Int).tdiv (v:Int)=(Q2:Int):=by rw[eQ2];simp
 have tp2:(Q2:Int)*(v:Int)=(P2:Int):=by rw[eP2];simp
 have hQ2:Q2<8589934592:=Oo U x0 y Q2 _ G2.out (by omega) hy
 have hg2:d0<=Q2:=by have:=G2.out.le;rw[ed0]at this;exact this
 have HD:Hid (d32 h x1 y=d):=ed;have HD0:Hid (d32 U x0 y=d0):=ed0;rw[ed]at hd1;rw[ed0]at hd0;have E:Hid (v=y/4294967296/\v0=y%4294967296):=⟨ev,ev0⟩;clear ev ev0 ex1 ex0 eQ eP eU eQ2 eP2 ed ed0;have y0: ¬(y:Int)=0:=by omega
 have y1: ¬(y:Int)<=h:=by omega
 have y2: ¬(h:Int)=0:=by omega
 have yv: ¬(v:Int)=0:=by omega
 have o1:bits .or .u64 (h:Int) 0=h:=by
  rw[show(0:Int)=((0:Nat):Int)from rfl,u64_or_nat _ _ (by omega) (by omega)];simp
 go_enter func209,ntmps209
 go_wp2_with fail
 refine(K8 y _ hy hy2).mono ?_;rintro e w2 ⟨rfl,rfl⟩
 go_wp2_with fail
 go_loopg [15,16] (Q-d) (fun g s15 s16 wr=> ∃q r:Nat,q=d+g/\s15= .int .u64 q/\s16= .int .u64 r/\Gu h x1 y q r/\r<4294967296/\w2=wr)
 case atStart=>
  refine⟨Q,h-P,by omega,rfl,?_,G0.out,hPr,rfl⟩;rw[show((h-P:Nat):Int)=(h:Int)-P by omega]
 case round=>
  obtain⟨q,r,hq,rfl,rfl,hG,hr,rfl⟩:=hrel;have hq33:=Oo h x1 y q r hG (by omega) hy;have tq:(q:Int)*(v0:Int)=((q*v0:Nat):Int):=by simp
  have hsm:q<4294967296->q*v0<18446744073709551616:=fun h1=>by
   have:q*v0<=4294967295*4294967295:=Nat.mul_le_mul (by omega) (by omega);omega
  have hstop:q*v0<=4294967296*r+x1->q=d:=fun h1=>by
   rw[E.out.2]at h1;rw[<-HD.out];exact Uf h x1 y q r hG (by omega) h1
  have hmore:4294967296*r+x1<q*v0->d<q:=fun h1=>by
   rw[E.out.2]at h1;rw[<-HD.out];exact TI h x1 y q r hG (by omega) h1
  have hnext:d<q->Gu h x1 y (q-1) (r+v):=fun h1=>by
   rw[<-HD.out]at h1;rw[E.out.1];exact TJ h x1 y q r hG h1
  have hbrk:d<q->4294967296<=r+v->q-1=d:=fun h1 h2=>by
   rw[<-HD.out];exact VZ h x1 y _ _ (hnext h1) (by omega) h2
  generalize q*v0=pq at*
  cases gk with
  |zero=>
   obtain rfl:d=q:=by omega
   have hc: ¬4294967296*r+x1<pq:=fun h1=>by have:=hmore h1;omega
   have hsm':=hsm (by omega);have hc':(pq:Int)<=4294967296*r+x1:=by omega
   have hz: ¬(4294967296:Int)<=d:=by omega
   clear hc;clear hstop hmore hnext hbrk hsm hG hq
   go_wp2_with fail
   clear hc' hz hsm' tq hr hq33
   go_loopg [18,16] (Q2-d0) (fun g s18 s16 wr=> ∃q r:Nat,q=d0+g/\s18= .int .u64 q/\s16= .int .u64 r/\Gu U x0 y q r/\r<4294967296/\w2=wr)
   case atStart=>
    refine⟨Q2,U-P2,by omega,rfl,?_,G2.out,hPr2,rfl⟩;rw[show((U-P2:Nat):Int)=(U:Int)-P2 by omega]
   case round=>
    obtain⟨q,r,hq,rfl,rfl,hG,hr,rfl⟩:=hrel;have hq33:=Oo U x0 y q r hG (by omega) hy;have tq:(q:Int)*(v0:Int)=((q*v0:Nat):Int):=by simp
    have hsm:q<4294967296->q*v0<18446744073709551616:=fun h1=>by
     have:q*v0<=4294967295*4294967295:=Nat.mul_le_mul (by omega) (by omega);omega
    have hstop:q*v0<=4294967296*r+x0->q=d0:=fun h1=>by
     rw[E.out.2]at h1;rw[<-HD0.out];exact Uf U x0 y q r hG (by omega) h1
    have hmore:4294967296*r+x0<q*v0->d0<q:=fun h1=>by
     rw[E.out.2]at h1;rw[<-HD0.out];exact TI U x0 y q r hG (by omega) h1
    have hnext:d0<q->Gu U x0 y (q-1) (r+v):=fun h1=>by
     rw[<-HD0.out]at h1;rw[E.out.1];exact TJ U x0 y q r hG h1
    have hbrk:d0<q->4294967296<=r+v->q-1=d0:=fun h1 h2=>by
     rw[<-HD0.out];exact VZ U x0 y _ _ (hnext h1) (by omega) h2
    generalize q*v0=pq at*
    cases gk with
    |zero=>
     obtain rfl:d0=q:=by omega
     have hc: ¬4294967296*r+x0<pq:=fun h1=>by have:=hmore h1;omega
     have hsm':=hsm (by omega);have hc':(pq:Int)<=4294967296*r+x0:=by omega
     have hz: ¬(4294967296:Int)<=d0:=by omega
     clear hc;clear hstop hmore hnext hbrk hsm hG hq;go_wp2;go_ret2;refine⟨⟨IntKind.u64.wrap (IntKind.u64.wrap (IntKind.u64.wrap ((U:Int)*4294967296)+x0)-IntKind.u64.wrap ((d0:Int)*y)),?_⟩,Below.refl _ _⟩;rfl
    |succ g=>
     have hlt:d0<q:=by omega
     have hN:=hnext hlt;have hB:=hbrk hlt
     have hcond:4294967296<=q∨(q<4294967296/\4294967296*r+x0<pq):=by
      rcases Nat.lt_or_ge q 4294967296 with h1|h1
      ·refine .inr ⟨h1,?_⟩;rcases Nat.lt_or_ge (4294967296*r+x0) pq with h2|h2
       ·exact h2
       ·have:=hstop h2;omega
      ·exact .inl h1
     clear hstop hmore hnext hbrk hG;have HQ:Hid (q=d0+(g+1)):=hq;clear hq;rcases hcond with hbig|⟨hbig,hc⟩
     ·clear hsm;have hz:(4294967296:Int)<=q:=by omega
      clear hbig;by_cases hov:4294967296<=r+v
      ·obtain rfl:g=0:=by have:=hB hov;have:=HQ.out;omega
       have tqd:(q:Int)-1=(d0:Int):=by have:=HQ.out;omega
       have hw:(4294967296:Int)<=r+v:=by omega
       clear hB hN HQ hov;go_wp2;go_ret2;refine⟨⟨IntKind.u64.wrap (IntKind.u64.wrap (IntKind.u64.wrap ((U:Int)*4294967296)+x0)-IntKind.u64.wrap ((d0:Int)*y)),?_⟩,Below.refl _ _⟩;rfl
      ·have hw: ¬(4294967296:Int)<=r+v:=by omega
       clear hB;go_wp2
       go_roundg g
       case measure=>omega
       case rel=>exact⟨q-1,r+v,by have:=HQ.out;omega,by go_num,by go_num,hN,by omega,rfl⟩
     ·have hsm':=hsm hbig;have hz: ¬(4294967296:Int)<=q:=by omega
      have hc':4294967296*(r:Int)+x0<pq:=by omega
      clear hsm hbig hc;by_cases hov:4294967296<=r+v
      ·obtain rfl:g=0:=by have:=hB hov;have:=HQ.out;omega
       have tqd:(q:Int)-1=(d0:Int):=by have:=HQ.out;omega
       have hw:(4294967296:Int)<=r+v:=by omega
       clear hB hN HQ hov;go_wp2;go_ret2;refine⟨⟨IntKind.u64.wrap (IntKind.u64.wrap (IntKind.u64.wrap ((U:Int)*4294967296)+x0)-IntKind.u64.wrap ((d0:Int)*y)),?_⟩,Below.refl _ _⟩;rfl
      ·have hw: ¬(4294967296:Int)<=r+v:=by omega
       clear hB;go_wp2
       go_roundg g
       case measure=>omega
       case rel=>exact⟨q-1,r+v,by have:=HQ.out;omega,by go_num,by go_num,hN,by omega,rfl⟩
  |succ g=>
   have hlt:d<q:=by omega
   have hN:=hnext hlt;have hB:=hbrk hlt
   have hcond:4294967296<=q∨(q<4294967296/\4294967296*r+x1<pq):=by
    rcases Nat.lt_or_ge q 4294967296 with h1|h1
    ·refine .inr ⟨h1,?_⟩;rcases Nat.lt_or_ge (4294967296*r+x1) pq with h2|h2
     ·exact h2
     ·have:=hstop h2;omega
    ·exact .inl h1
   clear hstop hmore hnext hbrk hG;have HQ:Hid (q=d+(g+1)):=hq;clear hq;rcases hcond with hbig|⟨hbig,hc⟩
   ·clear hsm;have hz:(4294967296:Int)<=q:=by omega
    clear hbig;by_cases hov:4294967296<=r+v
    ·obtain rfl:g=0:=by have:=hB hov;have:=HQ.out;omega
     have tqd:(q:Int)-1=(d:Int):=by have:=HQ.out;omega
     have hw:(4294967296:Int)<=r+v:=by omega
     clear hB hN HQ hov
     go_wp2_with fail
     clear hw hz tqd hr tq hq33
     go_loopg [18,16] (Q2-d0) (fun g s18 s16 wr=> ∃q r:Nat,q=d0+g/\s18= .int .u64 q/\s16= .int .u64 r/\Gu U x0 y q r/\r<4294967296/\w2=wr)
     case atStart=>
      refine⟨Q2,U-P2,by omega,rfl,?_,G2.out,hPr2,rfl⟩;rw[show((U-P2:Nat):Int)=(U:Int)-P2 by omega]
     case round=>
      obtain⟨q,r,hq,rfl,rfl,hG,hr,rfl⟩:=hrel;have hq33:=Oo U x0 y q r hG (by omega) hy;have tq:(q:Int)*(v0:Int)=((q*v0:Nat):Int):=by simp
      have hsm:q<4294967296->q*v0<18446744073709551616:=fun h1=>by
       have:q*v0<=4294967295*4294967295:=Nat.mul_le_mul (by omega) (by omega);omega
      have hstop:q*v0<=4294967296*r+x0->q=d0:=fun h1=>by
       rw[E.out.2]at h1;rw[<-HD0.out];exact Uf U x0 y q r hG (by omega) h1
      have hmore:4294967296*r+x0<q*v0->d0<q:=fun h1=>by
       rw[E.out.2]at h1;rw[<-HD0.out];exact TI U x0 y q r hG (by omega) h1
      have hnext:d0<q->Gu U x0 y (q-1) (r+v):=fun h1=>by
       rw[<-HD0.out]at h1;rw[E.out.1];exact TJ U x0 y q r hG h1
      have hbrk:d0<q->4294967296<=r+v->q-1=d0:=fun h1 h2=>by
       rw[<-HD0.out];exact VZ U x0 y _ _ (hnext h1) (by omega) h2
      generalize q*v0=pq at*
      cases gk with
      |zero=>
       obtain rfl:d0=q:=by omega
       have hc: ¬4294967296*r+x0<pq:=fun h1=>by have:=hmore h1;omega
       have hsm':=hsm (by omega);have hc':(pq:Int)<=4294967296*r+x0:=by omega
       have hz: ¬(4294967296:Int)<=d0:=by omega
       clear hc;clear hstop hmore hnext hbrk hsm hG hq;go_wp2;go_ret2;refine⟨⟨IntKind.u64.wrap (IntKind.u64.wrap (IntKind.u64.wrap ((U:Int)*4294967296)+x0)-IntKind.u64.wrap ((d0:Int)*y)),?_⟩,Below.refl _ _⟩;rfl
      |succ g=>
       have hlt:d0<q:=by omega
       have hN:=hnext hlt;have hB:=hbrk hlt
       have hcond:4294967296<=q∨(q<4294967296/\4294967296*r+x0<pq):=by
        rcases Nat.lt_or_ge q 4294967296 with h1|h1
        ·refine .inr ⟨h1,?_⟩;rcases Nat.lt_or_ge (4294967296*r+x0) pq with h2|h2
         ·exact h2
         ·have:=hstop h2;omega
        ·exact .inl h1
       clear hstop hmore hnext hbrk hG;have HQ:Hid (q=d0+(g+1)):=hq;clear hq;rcases hcond with hbig|⟨hbig,hc⟩
       ·clear hsm;have hz:(4294967296:Int)<=q:=by omega
        clear hbig;by_cases hov:4294967296<=r+v
        ·obtain rfl:g=0:=by have:=hB hov;have:=HQ.out;omega
         have tqd:(q:Int)-1=(d0:Int):=by have:=HQ.out;omega
         have hw:(4294967296:Int)<=r+v:=by omega
         clear hB hN HQ hov;go_wp2;go_ret2;refine⟨⟨IntKind.u64.wrap (IntKind.u64.wrap (IntKind.u64.wrap ((U:Int)*4294967296)+x0)-IntKind.u64.wrap ((d0:Int)*y)),?_⟩,Below.refl _ _⟩;rfl
        ·have hw: ¬(4294967296:Int)<=r+v:=by omega
         clear hB;go_wp2
         go_roundg g
         case measure=>omega
         case rel=>exact⟨q-1,r+v,by have:=HQ.out;omega,by go_num,by go_num,hN,by omega,rfl⟩
       ·have hsm':=hsm hbig;have hz: ¬(4294967296:Int)<=q:=by omega
        have hc':4294967296*(r:Int)+x0<pq:=by omega
        clear hsm hbig hc;by_cases hov:4294967296<=r+v
        ·obtain rfl:g=0:=by have:=hB hov;have:=HQ.out;omega
         have tqd:(q:Int)-1=(d0:Int):=by have:=HQ.out;omega
         have hw:(4294967296:Int)<=r+v:=by omega
         clear hB hN HQ hov;go_wp2;go_ret2;refine⟨⟨IntKind.u64.wrap (IntKind.u64.wrap (IntKind.u64.wrap ((U:Int)*4294967296)+x0)-IntKind.u64.wrap ((d0:Int)*y)),?_⟩,Below.refl _ _⟩;rfl
        ·have hw: ¬(4294967296:Int)<=r+v:=by omega
         clear hB;go_wp2
         go_roundg g
         case measure=>omega
         case rel=>exact⟨q-1,r+v,by have:=HQ.out;omega,by go_num,by go_num,hN,by omega,rfl⟩
    ·have hw: ¬(4294967296:Int)<=r+v:=by omega
     clear hB;go_wp2
     go_roundg g
     case measure=>omega
     case rel=>exact⟨q-1,r+v,by have:=HQ.out;omega,by go_num,by go_num,hN,by omega,rfl⟩
   ·have hsm':=hsm hbig;have hz: ¬(4294967296:Int)<=q:=by omega
    have hc':4294967296*(r:Int)+x1<pq:=by omega
    clear hsm hbig hc;by_cases hov:4294967296<=r+v
    ·obtain rfl:g=0:=by have:=hB hov;have:=HQ.out;omega
     have tqd:(q:Int)-1=(d:Int):=by have:=HQ.out;omega
     have hw:(4294967296:Int)<=r+v:=by omega
     clear hB hN HQ hov
     go_wp2_with fail
     clear hw hz tqd hr tq hq33 hc' hsm'
     go_loopg [18,16] (Q2-d0) (fun g s18 s16 wr=> ∃q r:Nat,q=d0+g/\s18= .int .u64 q/\s16= .int .u64 r/\Gu U x0 y q r/\r<4294967296/\w2=wr)
     case atStart=>
      refine⟨Q2,U-P2,by omega,rfl,?_,G2.out,hPr2,rfl⟩;rw[show((U-P2:Nat):Int)=(U:Int)-P2 by omega]
     case round=>
      obtain⟨q,r,hq,rfl,rfl,hG,hr,rfl⟩:=hrel;have hq33:=Oo U x0 y q r hG (by omega) hy;have tq:(q:Int)*(v0:Int)=((q*v0:Nat):Int):=by simp
      have hsm:q<4294967296->q*v0<18446744073709551616:=fun h1=>by
       have:q*v0<=4294967295*4294967295:=Nat.mul_le_mul (by omega) (by omega);omega
      have hstop:q*v0<=4294967296*r+x0->q=d0:=fun h1=>by
       rw[E.out.2]at h1;rw[<-HD0.out];exact Uf U x0 y q r hG (by omega) h1
      have hmore:4294967296*r+x0<q*v0->d0<q:=fun h1=>by
       rw[E.out.2]at h1;rw[<-HD0.out];exact TI U x0 y q r hG (by omega) h1
      have hnext:d0<q->Gu U x0 y (q-1) (r+v):=fun h1=>by
       rw[<-HD0.out]at h1;rw[E.out.1];exact TJ U x0 y q r hG h1
      have hbrk:d0<q->4294967296<=r+v->q-1=d0:=fun h1 h2=>by
       rw[<-HD0.out];exact VZ U x0 y _ _ (hnext h1) (by omega) h2
      generalize q*v0=pq at*
      cases gk with
      |zero=>
       obtain rfl:d0=q:=by omega
       have hc: ¬4294967296*r+x0<pq:=fun h1=>by have:=hmore h1;omega
       have hsm':=hsm (by omega);have hc':(pq:Int)<=4294967296*r+x0:=by omega
       have hz: ¬(4294967296:Int)<=d0:=by omega
       clear hc;clear hstop hmore hnext hbrk hsm hG hq;go_wp2;go_ret2;refine⟨⟨IntKind.u64.wrap (IntKind.u64.wrap (IntKind.u64.wrap ((U:Int)*4294967296)+x0)-IntKind.u64.wrap ((d0:Int)*y)),?_⟩,Below.refl _ _⟩;rfl
      |succ g=>
       have hlt:d0<q:=by omega
       have hN:=hnext hlt;have hB:=hbrk hlt
       have hcond:4294967296<=q∨(q<4294967296/\4294967296*r+x0<pq):=by
        rcases Nat.lt_or_ge q 4294967296 with h1|h1
        ·refine .inr ⟨h1,?_⟩;rcases Nat.lt_or_ge (4294967296*r+x0) pq with h2|h2
         ·exact h2
         ·have:=hstop h2;omega
        ·exact .inl h1
       clear hstop hmore hnext hbrk hG;have HQ:Hid (q=d0+(g+1)):=hq;clear hq;rcases hcond with hbig|⟨hbig,hc⟩
       ·clear hsm;have hz:(4294967296:Int)<=q:=by omega
        clear hbig;by_cases hov:4294967296<=r+v
        ·obtain rfl:g=0:=by have:=hB hov;have:=HQ.out;omega
         have tqd:(q:Int)-1=(d0:Int):=by have:=HQ.out;omega
         have hw:(4294967296:Int)<=r+v:=by omega
         clear hB hN HQ hov;go_wp2;go_ret2;refine⟨⟨IntKind.u64.wrap (IntKind.u64.wrap (IntKind.u64.wrap ((U:Int)*4294967296)+x0)-IntKind.u64.wrap ((d0:Int)*y)),?_⟩,Below.refl _ _⟩;rfl
        ·have hw: ¬(4294967296:Int)<=r+v:=by omega
         clear hB;go_wp2
         go_roundg g
         case measure=>omega
         case rel=>exact⟨q-1,r+v,by have:=HQ.out;omega,by go_num,by go_num,hN,by omega,rfl⟩
       ·have hsm':=hsm hbig;have hz: ¬(4294967296:Int)<=q:=by omega
        have hc':4294967296*(r:Int)+x0<pq:=by omega
        clear hsm hbig hc;by_cases hov:4294967296<=r+v
        ·obtain rfl:g=0:=by have:=hB hov;have:=HQ.out;omega
         have tqd:(q:Int)-1=(d0:Int):=by have:=HQ.out;omega
         have hw:(4294967296:Int)<=r+v:=by omega
         clear hB hN HQ hov;go_wp2;go_ret2;refine⟨⟨IntKind.u64.wrap (IntKind.u64.wrap (IntKind.u64.wrap ((U:Int)*4294967296)+x0)-IntKind.u64.wrap ((d0:Int)*y)),?_⟩,Below.refl _ _⟩;rfl
        ·have hw: ¬(4294967296:Int)<=r+v:=by omega
         clear hB;go_wp2
         go_roundg g
         case measure=>omega
         case rel=>exact⟨q-1,r+v,by have:=HQ.out;omega,by go_num,by go_num,hN,by omega,rfl⟩
    ·have hw: ¬(4294967296:Int)<=r+v:=by omega
     clear hB;go_wp2
     go_roundg g
     case measure=>omega
     case rel=>exact⟨q-1,r+v,by have:=HQ.out;omega,by go_num,by go_num,hN,by omega,rfl⟩
theorem NR (h l y:Nat)(w:World)(hh:h<y)(hl:l<18446744073709551616)(hy:9223372036854775808<=y)(hy2:y<18446744073709551616):
  Calls prog 209 #[.int .u64 h,.int .u64 l,.int .u64 y] w fun e w'=>(∃r:Int,e= .returned (.tuple #[.int .u64 ((h*18446744073709551616+l)/y:Nat),.int .u64 r]))/\Below w.heap.size w w':=by
 rcases Nat.eq_zero_or_pos h with rfl|h0
 ·have hq:l/y<18446744073709551616:=Nat.lt_of_le_of_lt (Nat.div_le_self _ _) hl
  have e:IntKind.u64.wrap ((l:Int).tdiv y)=(((0*18446744073709551616+l)/y:Nat):Int):=by
   rw[Nat.zero_mul,Nat.zero_add,<-TC _ hq];simp
  rw[<-e];exact Oq l y w hh
 ·have:=Ot h l y _ _ _ _ _ _ _ _ _ _ _ w h0 hh hl hy hy2 rfl rfl rfl rfl rfl rfl rfl rfl rfl rfl rfl
  rw[show((d32 h (l/4294967296) y:Nat):Int)*4294967296+(d32 (h*4294967296+l/4294967296-d32 h (l/4294967296) y*y) (l%4294967296) y:Nat)=((d32 h (l/4294967296) y*4294967296+d32 (h*4294967296+l/4294967296-d32 h (l/4294967296) y*y) (l%4294967296) y:Nat):Int) by simp,
   GL h (l/4294967296) y (l%4294967296) (by omega),show(h*4294967296+l/4294967296)*4294967296+l%4294967296=h*18446744073709551616+l by omega]at this
  exact this
end Go.Proofs.YtcdahmommonnfaaGreatDoor
