import Derived.Test.YtobblihganocoaaGreatDoorGA
import Derived.Deep.DeepCutAuto
import Derived.Deep.RegionLaw
set_option maxRecDepth 100000
set_option maxHeartbeats 2000000
namespace Go.Proofs.YtobblihganocoaaGreatDoor
open Go.Proofs.Tryz
set_option linter.unusedVariables false
open Go.RowKit
theorem IE (A B:Nat)(w:World):
  Calls Tryz.prog 89 #[.agg (Zc A),.agg (Zc B)] w fun e w'=>e= .returned (.tuple #[.agg (Zc (A+B)),.int .i64 (cN A B 256:Nat)])/\Below w.heap.size w w':=by
 go_enter func89,ntmps89
 go_wp2_with (first
  |refine Zk rfl 62 _ rfl _ rfl ?_
  |refine Ze rfl 62 rfl _ Zm ?_)
 have hW:(((w.alloc (Obj.cells (Zc A) 62)).alloc (Obj.cells (Zc B) 62)).alloc (Obj.cells (Zc 0) 62)).heap.size=w.heap.size+3:=by simp
 have rA:Row (((w.alloc (Obj.cells (Zc A) 62)).alloc (Obj.cells (Zc B) 62)).alloc (Obj.cells (Zc 0) 62)) w.heap.size (Zc A) 62:=((Row.here rfl).alloc _).alloc _
 have rB:Row (((w.alloc (Obj.cells (Zc A) 62)).alloc (Obj.cells (Zc B) 62)).alloc (Obj.cells (Zc 0) 62)) (w.heap.size+1) (Zc B) 62:=(Row.here (by simp)).alloc _
 have rR:Row (((w.alloc (Obj.cells (Zc A) 62)).alloc (Obj.cells (Zc B) 62)).alloc (Obj.cells (Zc 0) 62)) (w.heap.size+1+1) (Zc 0) 62:=Row.here (by simp)
 have bW:Below w.heap.size w (((w.alloc (Obj.cells (Zc A) 62)).alloc (Obj.cells (Zc B) 62)).alloc (Obj.cells (Zc 0) 62)):=(((Below.refl _ _).alloc (Nat.le_refl _) _).alloc (by simp) _).alloc (by simp;omega) _
 generalize (((w.alloc (Obj.cells (Zc A) 62)).alloc (Obj.cells (Zc B) 62)).alloc (Obj.cells (Zc 0) 62))=W at*
 refine Wk (by kernel_rfl) (fun d a' w'=>
  (d 6=false/\d 7=false/\(d 3=true->d 2=true)/\ ∃vp vq va vx vb vy:Value,a'=({tmps:=List.toArray ((.agg (Zc A))::(.agg (Zc B))::(.pointer (some ⟨w.heap.size,0,none⟩))::(.pointer (some ⟨w.heap.size+1,0,none⟩))::(.pointer (some ⟨w.heap.size+1+1,0,none⟩))::(.int .i64 0)::vp::vq::undef::undef::undef::va::vx::vb::vy::undef::undef::undef::undef::undef::undef::undef::undef::undef::undef::undef::undef::undef::undef::undef::undef::undef::undef::undef::undef::undef::undef::undef::undef::undef::undef::undef::undef::undef::undef::undef::undef::undef::undef::undef::undef::undef::undef::undef::undef::undef::undef::[]),defers:=[]}:Act)/\
   (d 0=true->va= .agg (Zc A))/\(d 1=true->vx= .agg (Yl A))/\(d 2=true->vb= .agg (Zc B))/\(d 3=true->vy= .agg (Yl B))/\
   (d 4=true-> ∃p,vp= .pointer (some ⟨p,0,none⟩)/\w.heap.size+3<=p/\Row w' p (Yl 0) 159)/\(d 5=true-> ∃q,vq= .pointer (some ⟨q,0,none⟩)/\w.heap.size+3<=q/\Row w' q (Yl 0) 159)/\
   (d 4=true->d 5=true->vp≠vq)/\Below (w.heap.size+3) W w')∨
  ((∀j,j<7->d j=true)/\ ∃p q va vx vb vy,∃vp vq:Value,vp= .pointer (some ⟨p,0,none⟩)/\vq= .pointer (some ⟨q,0,none⟩)/\va= .agg (Zc A)/\vx= .agg (Yl A)/\vb= .agg (Zc B)/\vy= .agg (Yl B)/\a'=({tmps:=List.toArray ((.agg (Zc A))::(.agg (Zc B))::(.pointer (some ⟨w.heap.size,0,none⟩))::(.pointer (some ⟨w.heap.size+1,0,none⟩))::(.pointer (some ⟨w.heap.size+1+1,0,none⟩))::(.int .i64 0)::vp::vq::undef::undef::undef::va::vx::vb::vy::undef::undef::undef::undef::undef::undef::undef::undef::undef::undef::undef::undef::undef::undef::undef::undef::undef::undef::undef::undef::undef::undef::undef::undef::undef::undef::undef::undef::undef::undef::undef::undef::undef::undef::undef::undef::undef::undef::undef::undef::undef::undef::[]),defers:=[]}:Act)/\
   w.heap.size+3<=p/\w.heap.size+3<=q/\p≠q/\Row w' p (Yl A) 159/\Row w' q (if d 7=true then Yl B else Yl 0) 159/\Below (w.heap.size+3) W w')) (by kernel_rfl) ?start ?step ?fin
 case start=>exact .inl ⟨rfl,rfl,nofun,undef,undef,undef,undef,undef,undef,rfl,nofun,nofun,nofun,nofun,nofun,nofun,nofun,(Below.refl _ _).drew⟩
 case step=>
  intro i o ho d a' w' hI hd hpre
  rcases hI with ⟨d6,d7,d32,vp,vq,va,vx,vb,vy,rfl,h0,h1,h2,h3,h4,h5,h6,hb⟩|⟨hall,p,q,va,vx,vb,vy,vp,vq,rfl,rfl,rfl,rfl,rfl,rfl,rfl,hp,hq,hne,rp,rq,hb⟩
  ·have hsz:w.heap.size+3<=w'.heap.size:=by have:=hb.size;omega
   match i,ho with
   |0,ho=>
    have ho':=Option.some.inj ho
    subst ho'
    refine SQ 62 _ rfl w.heap.size rfl (rA.below hb (by omega)) 4 _ underlying62 Zb ?_
    exact .inl ⟨d6,d7,d32,vp,vq,_,vx,vb,vy,rfl,fun _=>rfl,h1,h2,h3,h4,h5,h6,hb⟩
   |1,ho=>
    have ho':=Option.some.inj ho
    subst ho'
    have e0:=h0 (hpre ⟨0,.data⟩ (by simp) rfl)
    subst e0
    refine Ww 127 _ _ rfl func127 (by kernel_rfl) #[.agg (Zc A)] rfl ?_
    refine(WX A w').mono fun e w2 ⟨he,hb2⟩=>⟨_,he,.inl ⟨d6,d7,d32,vp,vq,_,_,vb,vy,rfl,fun _=>rfl,fun _=>rfl,h2,h3,fun h=>?_,fun h=>?_,h6,hb.trans (hb2.mono hsz)⟩⟩
    ·obtain⟨p,e,hp,r⟩:=h4 h;exact⟨p,e,hp,r.belowAll hb2⟩
    ·obtain⟨p,e,hp,r⟩:=h5 h;exact⟨p,e,hp,r.belowAll hb2⟩
   |2,ho=>
    have ho':=Option.some.inj ho
    subst ho'
    refine SQ 62 _ rfl (w.heap.size+1) rfl (rB.below hb (by omega)) 4 _ underlying62 Zb ?_
    exact .inl ⟨d6,d7,fun _=>rfl,vp,vq,va,vx,_,vy,rfl,h0,h1,fun _=>rfl,h3,h4,h5,h6,hb⟩
   |3,ho=>
    have ho':=Option.some.inj ho
    subst ho'
    have D2:=hpre ⟨2,.data⟩ (by simp) rfl
    have e0:=h2 D2
    subst e0
    refine Ww 127 _ _ rfl func127 (by kernel_rfl) #[.agg (Zc B)] rfl ?_
    refine(WX B w').mono fun e w2 ⟨he,hb2⟩=>⟨_,he,.inl ⟨d6,d7,fun _=>D2,vp,vq,va,vx,_,_,rfl,h0,h1,fun _=>rfl,fun _=>rfl,fun h=>?_,fun h=>?_,h6,hb.trans (hb2.mono hsz)⟩⟩
    ·obtain⟨p,e,hp,r⟩:=h4 h;exact⟨p,e,hp,r.belowAll hb2⟩
    ·obtain⟨p,e,hp,r⟩:=h5 h;exact⟨p,e,hp,r.belowAll hb2⟩
   |4,ho=>
    have ho':=Option.some.inj ho
    subst ho'
    refine U7 159 rfl _ YO ?_
    refine .inl ⟨d6,d7,d32,_,vq,va,vx,vb,vy,rfl,h0,h1,h2,h3,fun _=>⟨w'.heap.size,rfl,hsz,Row.new _ _ _⟩,fun h=>?_,fun _ h=>?_,hb.alloc hsz _⟩
    ·obtain⟨p,e,hp,r⟩:=h5 h;exact⟨p,e,hp,r.alloc _⟩
    ·obtain⟨p,e,hp,r⟩:=h5 h
     subst e
     intro e
     have hlt:=r.lt
     simp at e
     first|done|omega
   |5,ho=>
    have ho':=Option.some.inj ho
    subst ho'
    refine U7 159 rfl _ YO ?_
    refine .inl ⟨d6,d7,d32,vp,_,va,vx,vb,vy,rfl,h0,h1,h2,h3,fun h=>?_,fun _=>⟨w'.heap.size,rfl,hsz,Row.new _ _ _⟩,fun h _=>?_,hb.alloc hsz _⟩
    ·obtain⟨p,e,hp,r⟩:=h4 h;exact⟨p,e,hp,r.alloc _⟩
    ·obtain⟨p,e,hp,r⟩:=h4 h
     subst e
     intro e
     have hlt:=r.lt
     simp at e
     first|done|omega
   |6,ho=>
    have ho':=Option.some.inj ho
    subst ho'
    have D0:=hpre ⟨0,.phase⟩ (by simp) rfl
    have D1:=hpre ⟨1,.data⟩ (by simp) rfl
    have D3:=hpre ⟨3,.chain⟩ (by simp) rfl
    have D4:=hpre ⟨4,.data⟩ (by simp) rfl
    have D5:=hpre ⟨5,.phase⟩ (by simp) rfl
    have D2:=d32 D3
    obtain⟨p,ep,hp,rp⟩:=h4 D4
    obtain⟨q,eq,hq,rq⟩:=h5 D5
    have hne:=h6 D4 D5
    have e0:=h0 D0;have e1:=h1 D1;have e2:=h2 D2;have e3:=h3 D3
    subst ep eq e0 e1 e2 e3
    have hpq:p≠q:=fun e=>hne (by rw[e])
    refine U8 159 _ _ rfl p (Yl A) rfl rfl rp (by rw[ZJ];exact Ya) (by simp only[ZJ]) (Y6 _) ?_
    refine .inr ⟨fun j hj=>?_,p,q,_,_,_,_,_,_,rfl,rfl,rfl,rfl,rfl,rfl,rfl,hp,hq,hpq,rp.setRow _,?_,Zo hb hp _⟩
    ·match j,hj with
     |0,_=>exact D0
     |1,_=>exact D1
     |2,_=>exact D2
     |3,_=>exact D3
     |4,_=>exact D4
     |5,_=>exact D5
     |6,_=>rfl
    ·have hr:=rq.setRow_far p (Yl A) (Ne.symm hpq)
     rw[if_neg (by show ¬d 7=true;rw[d7];decide)]
     exact hr
   |7,ho=>
    have ho':=Option.some.inj ho
    subst ho'
    have D6:=hpre ⟨6,.chain⟩ (by simp) rfl
    rw[d6]at D6
    cases D6
   |n+8,ho=>cases ho
  ·match i,ho with
   |0,_=>rw[hall 0 (by omega)]at hd;cases hd
   |1,_=>rw[hall 1 (by omega)]at hd;cases hd
   |2,_=>rw[hall 2 (by omega)]at hd;cases hd
   |3,_=>rw[hall 3 (by omega)]at hd;cases hd
   |4,_=>rw[hall 4 (by omega)]at hd;cases hd
   |5,_=>rw[hall 5 (by omega)]at hd;cases hd
   |6,_=>rw[hall 6 (by omega)]at hd;cases hd
   |7,ho=>
    have ho':=Option.some.inj ho
    subst ho'
    rw[if_neg (by rw[hd];decide)]at rq
    refine U8 159 _ _ rfl q (Yl B) rfl rfl rq (by rw[ZJ];exact Ya) (by simp only[ZJ]) (Y6 _) ?_
    exact .inr ⟨fun j hj=>by show(j==7||d j)=true;rw[hall j hj,Bool.or_true],p,q,_,_,_,_,_,_,rfl,rfl,rfl,rfl,rfl,rfl,rfl,hp,hq,hne,rp.setRow_far _ _ hne,(by rw[if_pos (by rfl)];exact rq.setRow _),Zo hb hq _⟩
   |n+8,ho=>cases ho
 case fin=>
  intro d a' w' hI hall
  rcases hI with ⟨d6,_⟩|⟨_,p,q,va,vx,vb,vy,vp,vq,rfl,rfl,rfl,rfl,rfl,rfl,rfl,hp,hq,hne,rp,rq,hb⟩
  ·rw[hall 6 (by decide)]at d6;cases d6
  rw[hall 7 (by decide),if_pos rfl]at rq
  have hsz:=hb.size
  have bw:=bW.trans (hb.mono (by omega))
  have rR':=rR.below hb (by omega)
  go_wp2_with (first
   |refine Zt rfl 159 rfl _ Wo ?_
   |refine Ze rfl 159 rfl _ YO ?_
   |refine ZE rfl 159 _ _ rfl _ rfl rfl _ _ (by rw[ZJ];exact Ya) (by simp only[ZJ]) (Y6 _) ?_)
  have rr:=Row.new w' (Yl 0) 159
  have rp':=rp.alloc (.cells (Yl 0) 159)
  have rq':=rq.alloc (.cells (Yl 0) 159)
  have rR2:=rR'.alloc (.cells (Yl 0) 159)
  have bw2:=bw.alloc (by omega) (.cells (Yl 0) 159)
  have hpr:=rp.lt
  have hqr:=rq.lt
  generalize w'.alloc (.cells (Yl 0) 159)=w1 at*
  generalize w'.heap.size=r at*
  clear rp rq rR' bw hb rA rB rR bW
  go_loopg [9,10] 256 (fun g s9 s10 wr=> ∃k:Nat,k+g=256/\s9= .bool (Vp A B k)/\s10= .int .i64 k/\Row wr p (Yl A) 159/\Row wr q (Yl B) 159/\Row wr r (Yl ((A+B)%2^k)) 159/\Row wr (w.heap.size+1+1) (Zc 0) 62/\Below w.heap.size w wr)
  case atStart=>exact⟨0,by omega,by rw[So],rfl,rp',rq',by rw[Nat.pow_zero,Nat.mod_one];exact rr,rR2,bw2⟩
  case round=>
   obtain⟨k,hk,rfl,rfl,r1,r2,r3,r4,hb⟩:=hrel
   clear rr rp' rq' rR2 bw2
   cases gk with
   |zero=>
    obtain rfl:k=256:=by omega
    rw[U5]at r3
    clear hk
    have hx: ¬((256:Int)<256):=by omega
    have hcn:cN A B 256=if Vp A B 256=true then 1 else 0:=rfl
    have HC:Hid (cN A B 256=if Vp A B 256=true then 1 else 0):=hcn
    clear hcn
    cases hc:Vp A B 256
    all_goals
     rw[hc]at HC
     clear hc
     go_wp2_with (first
      |refine wpList_load_row rfl 159 _ rfl _ rfl 159 _ (0,0) _ r3 underlying159 rfl (by rw[ZJ];exact Ya) ?_
      |(go_at_call 113;refine(UM _ _).mono ?_;rintro e w2 ⟨rfl,hb2⟩;have r5:=r4.belowAll hb2;have b5:=hb.trans (hb2.mono (by have:=hb.size;omega)))
      |refine wpList_store_row rfl 62 _ _ rfl _ (Zc (A+B)) rfl rfl 62 (Zc 0) r5 (by exact Zb) (by rfl) (Zr _) ?_)
     all_goals exact ZY rfl _ rfl (r5.setRow _) 4 _ underlying62 (by exact Zb) rfl _ rfl ⟨by rw[HC.out];rfl,Zo b5 (by omega) _⟩
   |succ g=>
    have hlt:(k:Int)<256:=by omega
    have hc1:=YY r1 k (by omega)
    have hc2:=YY r2 k (by omega)
    have hc3:=YY r3 k (by omega)
    have hf3:=r3.frozen k
    have hbit:=EO A B k
    have hcs:=NT A B k
    generalize A.testBit k=x at*
    generalize B.testBit k=y at*
    generalize Vp A B k=c at*
    have R:Aside ((A+B).testBit k=((x !=y) !=c)/\Vp A B (k+1)=(x&&y||c&&(x||y))/\Row wr p (Yl A) 159/\Row wr q (Yl B) 159/\Row wr r (Yl ((A+B)%2^k)) 159/\Row wr (w.heap.size+1+1) (Zc 0) 62/\Below w.heap.size w wr):=⟨hbit,hcs,r1,r2,r3,r4,hb⟩
    clear hbit hcs r1 r2 r3 r4 hb
    cases x<;>cases y<;>cases c
    all_goals
     go_wp2
     go_region
     go_wp2
     obtain⟨hbit,hcs,r1,r2,r3,r4,hb⟩:=R.out
     go_roundg g
     ·exact⟨k+1,by omega,by rw[hcs];rfl,by go_num,(r1.setCell_far _ _ _ (by omega)).drew,(r2.setCell_far _ _ _ (by omega)).drew,by rw[<-X4 (A+B) k _ hbit.symm];exact(r3.setCell _ _).drew,(r4.setCell_far _ _ _ (by omega)).drew,(ZL hb (by omega) _ _).drew⟩
     omega
theorem EZ (n:Int)(w:World)(h:n<=0):
  Calls Tryz.prog 57 #[.int .i64 n] w fun e w'=>e= .returned (.agg (Zc n.toNat))/\Below w.heap.size w w':=by
 have hg: ¬(0<n):=by omega
 have hd:decide (0<n)=false:=by simpa using hg
 go_enter func57,ntmps57
 go_wp2_with (first
  |refine Ze rfl 62 rfl _ Zm ?_
  |refine Ze rfl 159 rfl _ YO ?_
  |refine Zt rfl 159 rfl _ Wo ?_
  |refine ZE rfl 159 _ _ rfl _ rfl rfl _ _ (by rw[ZJ];exact Ya) (by simp only[ZJ]) (Y6 _) ?_)
 go_loopg [4] 0 (fun g s4 wr=>s4= .int .i64 0/\Row wr (w.heap.size+1) (Yl 0) 159/\Row wr w.heap.size (Zc 0) 62/\Below w.heap.size w wr)
 case atStart=>exact⟨rfl,Row.here (by simp),Row.one rfl,ZS _ _⟩
 case round=>
  obtain⟨rfl,r0,r1,hb⟩:=hrel
  go_wp2_with (first
   |refine Zf rfl 159 _ rfl _ rfl r0 256 _ underlying159 (by rw[ZJ];exact Ya) ?_
   |(go_at_call 113;refine(UM _ _).mono ?_;rintro e w2 ⟨rfl,hb2⟩;have r5:=r1.belowAll hb2;have b5:=Zh hb (Nat.le_refl _) hb2)
   |refine Zp rfl 62 _ _ rfl _ _ rfl rfl r5 (by exact Zb) (by simp only[Zl]) (Zr _) ?_)
  rw[show n.toNat=0 by omega]
  exact ZH rfl _ rfl (r5.setRow _) 4 _ underlying62 (by exact Zb) rfl ⟨rfl,Zo b5 (by omega) _⟩
theorem IF (N:Nat)(w:World)(h0:0<N)(h1:N<9223372036854775808):
  Calls Tryz.prog 57 #[.int .i64 N] w fun e w'=>e= .returned (.agg (Zc N))/\Below w.heap.size w w':=by
 have hg:(0:Int)<N:=by omega
 have H1:Hid (N<9223372036854775808):=h1
 clear h1 h0
 go_enter func57,ntmps57
 go_wp2_with (first
  |refine Ze rfl 62 rfl _ Zm ?_
  |refine Ze rfl 159 rfl _ YO ?_
  |refine Zt rfl 159 rfl _ Wo ?_
  |refine ZE rfl 159 _ _ rfl _ rfl rfl _ _ (by rw[ZJ];exact Ya) (by simp only[ZJ]) (Y6 _) ?_)
 go_loopg [4] 63 (fun g s4 wr=> ∃k:Nat,k+g=63/\s4= .int .i64 k/\Row wr (w.heap.size+1) (Yl (N%2^k)) 159/\Row wr w.heap.size (Zc 0) 62/\Below w.heap.size w wr)
 case atStart=>exact⟨0,by omega,rfl,by rw[Nat.pow_zero,Nat.mod_one];exact Row.here (by simp),Row.one rfl,ZS _ _⟩
 case round=>
  obtain⟨k,hk,rfl,r0,r1,hb⟩:=hrel
  cases gk with
  |zero=>
   obtain rfl:k=63:=by omega
   rw[Nat.mod_eq_of_lt (show N<2^63 from H1.out)]at r0
   clear hk
   have hx: ¬((63:Int)<63):=by omega
   go_wp2_with (first
    |refine Zf rfl 159 _ rfl _ rfl r0 256 _ underlying159 (by rw[ZJ];exact Ya) ?_
    |(go_at_call 113;refine(UM _ _).mono ?_;rintro e w2 ⟨rfl,hb2⟩;have r5:=r1.belowAll hb2;have b5:=Zh hb (Nat.le_refl _) hb2)
    |refine Zp rfl 62 _ _ rfl _ _ rfl rfl r5 (by exact Zb) (by simp only[Zl]) (Zr _) ?_)
   exact ZH rfl _ rfl (r5.setRow _) 4 _ underlying62 (by exact Zb) rfl ⟨rfl,Zo b5 (by omega) _⟩
  |succ g=>
   have hlt:(k:Int)<63:=by omega
   have hlt':(k:Int)<256:=by omega
   have hc0:=YY r0 k (by omega)
   have hf0:=r0.frozen k
   have R:Aside (Row wr (w.heap.size+1) (Yl (N%2^k)) 159/\Row wr w.heap.size (Zc 0) 62/\Below w.heap.size w wr):=⟨r0,r1,hb⟩
   clear r0 r1 hb
   go_wp2
   obtain⟨r0,r1,hb⟩:=R.out
   go_roundg g
   case measure=>omega
   case rel=>
    refine⟨k+1,by omega,by go_num,?_,r1.setCell_far _ _ _ (by omega),ZL hb (by omega) _ _⟩
    have:=r0.setCell k (.bool (bits BinOp.and IntKind.i64 (↑N/2^k) 1==1))
    rw[X4 N k _ (NU _ _ H1.out)]at this
    exact this
theorem OO (n:Int)(w:World)(h:n<9223372036854775808):
  Calls Tryz.prog 57 #[.int .i64 n] w fun e w'=>e= .returned (.agg (Zc n.toNat))/\Below w.heap.size w w':=by
 by_cases h0:n<=0
 ·exact EZ n w h0
 ·obtain⟨N,rfl⟩:=Int.eq_ofNat_of_zero_le (show 0<=n by omega)
  rw[Int.toNat_natCast]
  exact IF N w (by omega) (by omega)
def xx (N:Nat):Nat:=2^256-1-N%2^256
def xp (N k:Nat):Nat:=xx N%2^k+N/2^k*2^k
def Vq (A B:Nat):Int:=if A<B then-1 else if B<A then 1 else 0
theorem Qa (A g:Nat)(h1:2^g<=A)(h2:A<2^(g+1)):bitLen A=g+1:=by
 have h0:A≠0:=by have:=Nat.two_pow_pos g;omega
 unfold bitLen
 rw[if_neg h0,(Nat.log2_eq_iff h0).2 ⟨h1,h2⟩]
theorem E0 (A g:Nat)(h2:A<2^(g+1)):(A.testBit g=true->2^g<=A)/\(A.testBit g=false->A<2^g):=by
 constructor
 ·intro h
  exact Nat.ge_two_pow_of_testBit h
 ·intro h
  rcases WV A g with ⟨_,_,h3⟩|⟨h3,_⟩
  ·rw[Nat.mod_eq_of_lt h2]at h3
   rw[h3]
   exact Nat.mod_lt _ (Nat.two_pow_pos g)
  ·rw[h]at h3;cases h3
def B1 (A:Nat)(k:Int):Int:=if 0<=k/\k<256/\A.testBit k.toNat=true then 1 else 0
theorem SV (A:Nat)(w:World)(hA:A<2^256):
  Calls Tryz.prog 91 #[.agg (Zc A)] w fun e w'=>e= .returned (.int .i64 (bitLen A))/\Below w.heap.size w w':=by
 have HA:Hid (A<2^256):=hA
 clear hA
 go_enter func91,ntmps91
 go_wp2_with (first
  |refine Zk rfl 62 _ rfl _ rfl ?_
  |refine Zf rfl 62 _ rfl _ rfl (by first|assumption|(refine Row.here ?_;first|(with_reducible rfl)|(simp;done))|(refine Row.one ?_;first|(with_reducible rfl)|(simp;done))|(refine Row.two ?_;first|(with_reducible rfl)|(simp;done))) 4 _ underlying62 (by exact Zb) ?_
  |(go_at_call 127;refine(WX _ _).mono ?_;rintro e w2 ⟨rfl,hb2⟩;have hs:=hb2.size;have b2:=Zh (ZQ _) (Nat.le_refl _) hb2;clear hb2)
  |refine Ze rfl 159 rfl _ YO ?_
  |refine ZE rfl 159 _ _ rfl _ rfl rfl _ _ (by rw[ZJ];exact Ya) (by simp only[ZJ]) (Y6 _) ?_)
 have r3:=Row.new w2 (Yl A) 159
 have b3:=b2.alloc b2.size (.cells (Yl A) 159)
 generalize w2.alloc (.cells (Yl A) 159)=w3 at*
 generalize w2.heap.size=r at*
 clear b2 hs
 go_loopg [4] 256 (fun g s4 wr=>s4= .int .i64 ((g:Int)-1)/\A<2^g/\g<=256/\Row wr r (Yl A) 159/\Below w.heap.size w wr)
 case atStart=>exact⟨rfl,HA.out,Nat.le_refl _,r3,b3⟩
 case round=>
  obtain⟨rfl,hlt,hle,r0,hb⟩:=hrel
  clear r3 b3 HA
  cases gk with
  |zero=>
   obtain rfl:A=0:=by simpa using hlt
   clear hlt hle
   go_wp2
   go_ret
   exact⟨rfl,hb⟩
  |succ g=>
   have ht:=E0 A g hlt
   have hq:=Qa A g
   have hc0:=YY r0 g (by omega)
   rw[show((g+1:Nat):Int)-1=(g:Int) by omega]
   have hgl:(g:Int)<256:=by omega
   cases hbit:A.testBit g
   ·rw[hbit]at hc0
    have R:Aside (A<2^g/\Row wr r (Yl A) 159/\Below w.heap.size w wr):=⟨ht.2 hbit,r0,hb⟩
    clear ht hq r0 hb hlt hbit
    go_wp2
    obtain⟨h1,r0,hb⟩:=R.out
    go_roundg g
    ·exact⟨rfl,h1,by omega,r0,hb⟩
    omega
   ·rw[hbit]at hc0
    have R:Aside (bitLen A=g+1/\Below w.heap.size w wr):=⟨hq (ht.1 hbit) hlt,hb⟩
    clear ht hq r0 hb hlt hbit
    go_wp2
    go_ret
    exact⟨by rw[R.out.1];rfl,R.out.2⟩
theorem E1 (A k:Nat)(w:World)(hk:k<256):
  Calls Tryz.prog 92 #[.agg (Zc A),.int .i64 k] w fun e w'=>e= .returned (.int .i64 (if A.testBit k=true then 1 else 0))/\Below w.heap.size w w':=by
 have hk':(k:Int)<256:=by omega
 cases hbit:A.testBit k
 all_goals
  have HB:Hid (A.testBit k=_):=hbit
  clear hbit
  go_enter func92,ntmps92
  go_wp2_with (first
   |refine Zk rfl 62 _ rfl _ rfl ?_
   |refine Zf rfl 62 _ rfl _ rfl (by first|assumption|(refine Row.here ?_;first|(with_reducible rfl)|(simp;done))|(refine Row.one ?_;first|(with_reducible rfl)|(simp;done))|(refine Row.two ?_;first|(with_reducible rfl)|(simp;done))) 4 _ underlying62 (by exact Zb) ?_
   |(go_at_call 127;refine(WX _ _).mono ?_;rintro e w2 ⟨rfl,hb2⟩;have b2:=(Zh (ZQ _) (Nat.le_refl _) hb2).alloc (by have:=hb2.size;simp at this;omega) (.cells (Yl A) 159);clear hb2;have hc0:=YY (Row.new w2 (Yl A) 159) k hk;rw[HB.out]at hc0)
   |refine Ze rfl 159 rfl _ YO ?_
   |refine ZE rfl 159 _ _ rfl _ rfl rfl _ _ (by rw[ZJ];exact Ya) (by simp only[ZJ]) (Y6 _) ?_)
  go_ret
  exact⟨rfl,b2⟩
theorem IG (A:Nat)(k:Int)(w:World)(hk:k<0∨256<=k):
  Calls Tryz.prog 92 #[.agg (Zc A),.int .i64 k] w fun e w'=>e= .returned (.int .i64 0)/\Below w.heap.size w w':=by
 rcases hk with hk|hk
 ·have h1: ¬(0<=k):=by omega
  have h2:decide (0<=k)=false:=by simpa using h1
  go_enter func92,ntmps92
  go_wp2_with (first
   |refine Zk rfl 62 _ rfl _ rfl ?_
   |refine Zf rfl 62 _ rfl _ rfl (by first|assumption|(refine Row.here ?_;first|(with_reducible rfl)|(simp;done))|(refine Row.one ?_;first|(with_reducible rfl)|(simp;done))|(refine Row.two ?_;first|(with_reducible rfl)|(simp;done))) 4 _ underlying62 (by exact Zb) ?_
   |(go_at_call 127;refine(WX _ _).mono ?_;rintro e w2 ⟨rfl,hb2⟩;have b2:=(Zh (ZQ _) (Nat.le_refl _) hb2).alloc (by have:=hb2.size;simp at this;omega) (.cells (Yl A) 159);clear hb2)
   |refine Ze rfl 159 rfl _ YO ?_
   |refine ZE rfl 159 _ _ rfl _ rfl rfl _ _ (by rw[ZJ];exact Ya) (by simp only[ZJ]) (Y6 _) ?_)
  go_ret
  exact⟨rfl,b2⟩
 ·have h1: ¬(k<256):=by omega
  have h2:decide (k<256)=false:=by simpa using h1
  have h3:0<=k:=by omega
  go_enter func92,ntmps92
  go_wp2_with (first
   |refine Zk rfl 62 _ rfl _ rfl ?_
   |refine Zf rfl 62 _ rfl _ rfl (by first|assumption|(refine Row.here ?_;first|(with_reducible rfl)|(simp;done))|(refine Row.one ?_;first|(with_reducible rfl)|(simp;done))|(refine Row.two ?_;first|(with_reducible rfl)|(simp;done))) 4 _ underlying62 (by exact Zb) ?_
   |(go_at_call 127;refine(WX _ _).mono ?_;rintro e w2 ⟨rfl,hb2⟩;have b2:=(Zh (ZQ _) (Nat.le_refl _) hb2).alloc (by have:=hb2.size;simp at this;omega) (.cells (Yl A) 159);clear hb2)
   |refine Ze rfl 159 rfl _ YO ?_
   |refine ZE rfl 159 _ _ rfl _ rfl rfl _ _ (by rw[ZJ];exact Ya) (by simp only[ZJ]) (Y6 _) ?_)
  go_ret
  exact⟨rfl,b2⟩
theorem OP (A:Nat)(k:Int)(w:World):
  Calls Tryz.prog 92 #[.agg (Zc A),.int .i64 k] w fun e w'=>e= .returned (.int .i64 (B1 A k))/\Below w.heap.size w w':=by
 unfold B1
 by_cases h0:0<=k/\k<256
 ·obtain⟨K,rfl⟩:=Int.eq_ofNat_of_zero_le h0.1
  refine(E1 A K w (by omega)).mono fun e w' ⟨he,hb⟩=>⟨?_,hb⟩
  rw[he,Int.toNat_natCast]
  by_cases hb:A.testBit K=true
  ·rw[if_pos hb,if_pos ⟨h0.1,h0.2,hb⟩]
  ·rw[if_neg hb,if_neg (fun h=>hb h.2.2)]
 ·rw[if_neg (fun h=>h0 ⟨h.1,h.2.1⟩)]
  exact IG A k w (by omega)
theorem E2 (A:Nat)(w:World)(hA:A<2^256)(h:63<bitLen A):
  Calls Tryz.prog 67 #[.agg (Zc A)] w fun e w'=>e= .returned (.tuple #[.int .i64 0,.bool false])/\Below w.heap.size w w':=by
 have HA:Hid (A<2^256):=hA
 clear hA
 have h':(63:Int)<(bitLen A:Int):=by omega
 clear h
 go_enter func67,ntmps67
 go_wp2_with (first
  |refine Zk rfl 62 _ rfl _ rfl ?_
  |refine Zf rfl 62 _ rfl _ rfl (by first|assumption|(refine Row.here ?_;first|(with_reducible rfl)|(simp;done))|(refine Row.one ?_;first|(with_reducible rfl)|(simp;done))|(refine Row.two ?_;first|(with_reducible rfl)|(simp;done))) 4 _ underlying62 (by exact Zb) ?_
  |(go_at_call 91;refine(SV _ _ HA.out).mono ?_;rintro e w2 ⟨rfl,hb2⟩;have b2:=Zh (ZQ _) (Nat.le_refl _) hb2;clear hb2))
 go_ret2
 exact⟨rfl,b2⟩
theorem IH (A:Nat)(w:World)(hA:A<9223372036854775808)(h:bitLen A<=63):
  Calls Tryz.prog 67 #[.agg (Zc A)] w fun e w'=>e= .returned (.tuple #[.int .i64 A,.bool true])/\Below w.heap.size w w':=by
 have HA:Hid (A<9223372036854775808):=hA
 clear hA
 have h': ¬(63:Int)<(bitLen A:Int):=by omega
 clear h
 go_enter func67,ntmps67
 go_wp2_with (first
  |refine Zk rfl 62 _ rfl _ rfl ?_
  |refine Zf rfl 62 _ rfl _ rfl (by first|assumption|(refine Row.here ?_;first|(with_reducible rfl)|(simp;done))|(refine Row.one ?_;first|(with_reducible rfl)|(simp;done))|(refine Row.two ?_;first|(with_reducible rfl)|(simp;done))) 4 _ underlying62 (by exact Zb) ?_
  |(go_at_call 91;refine(SV _ _ (Nat.lt_trans HA.out (by decide))).mono ?_;rintro e w2 ⟨rfl,hb2⟩;have r2:=(Row.here (w:=w) (c:=Zc A) (t:=62) (b:=w.heap.size) rfl).belowAll hb2;have b2:=Zh (ZQ _) (Nat.le_refl _) hb2;clear hb2)
  |refine Zf rfl 62 _ rfl _ rfl r2 4 _ underlying62 (by exact Zb) ?_
  |(go_at_call 127;refine(WX _ _).mono ?_;rintro e w3 ⟨rfl,hb3⟩;have b3:=Zh b2 (Nat.le_refl _) hb3;clear hb3)
  |refine Ze rfl 159 rfl _ YO ?_
  |refine ZE rfl 159 _ _ rfl _ rfl rfl _ _ (by rw[ZJ];exact Ya) (by simp only[ZJ]) (Y6 _) ?_)
 have r3:=Row.new w3 (Yl A) 159
 have b4:=b3.alloc b3.size (.cells (Yl A) 159)
 generalize w3.alloc (.cells (Yl A) 159)=w4 at*
 generalize w3.heap.size=r at*
 clear b2 b3 r2 h'
 go_loopg [4,6] 63 (fun g s4 s6 wr=> ∃k:Nat,k+g=63/\s4= .int .i64 ((A%2^k:Nat):Int)/\s6= .int .i64 k/\Row wr r (Yl A) 159/\Below w.heap.size w wr)
 case atStart=>exact⟨0,by omega,by rw[Nat.pow_zero,Nat.mod_one];rfl,rfl,r3,b4⟩
 case round=>
  obtain⟨k,hk,rfl,rfl,r0,hb⟩:=hrel
  clear r3 b4
  cases gk with
  |zero=>
   obtain rfl:k=63:=by omega
   rw[Nat.mod_eq_of_lt (show A<2^63 from HA.out)]
   clear hk
   have hx: ¬((63:Int)<63):=by omega
   go_wp2
   go_ret2
   exact⟨rfl,hb⟩
  |succ g=>
   have hlt:(k:Int)<63:=by omega
   have hlt':(k:Int)<256:=by omega
   have hc0:=YY r0 k (by omega)
   have hm:A%2^k<9223372036854775808:=Nat.lt_of_le_of_lt (Nat.mod_le _ _) HA.out
   have hno:=Vt A k
   have hor:=U6 A k
   have HM:Hid (A%2^k<9223372036854775808):=hm
   cases hbit:A.testBit k
   ·rw[hbit]at hc0
    have R:Aside (A%2^(k+1)=A%2^k/\Row wr r (Yl A) 159/\Below w.heap.size w wr):=⟨hno hbit,r0,hb⟩
    clear hno hor r0 hb hbit hm
    go_wp2
    obtain⟨h1,r0,hb⟩:=R.out
    go_roundg g
    ·exact⟨k+1,by omega,by rw[h1],by go_num,r0,hb⟩
    omega
   ·rw[hbit]at hc0
    have R:Aside (A%2^k|||2^k=A%2^(k+1)/\Row wr r (Yl A) 159/\Below w.heap.size w wr):=⟨hor hbit,r0,hb⟩
    clear hno hor r0 hb hbit hm
    go_wp2
    obtain⟨h1,r0,hb⟩:=R.out
    go_roundg g
    ·exact⟨k+1,by omega,by rw[<-h1,<-OF _ _ HM.out (by omega),IntKind.wrap_i64,Int.natCast_emod];simp[wrap64],by go_num,r0,hb⟩
    omega
theorem XD:Extern.find Tryz.f218=some add64Entry:=by kernel_rfl
theorem XE:Extern.findNext Tryz.f218=none:=by kernel_rfl
theorem NZ:Extern.find Tryz.f211=some Sq:=by kernel_rfl
theorem N1:Extern.findNext Tryz.f211=none:=by kernel_rfl
theorem VU (A B:Nat)(w:World):
  Calls Tryz.prog 204 #[.agg (Zc A),.agg (Zc B)] w fun e w'=>e= .returned (.tuple #[.agg (Zc (A+B)),.int .i64 (cN A B 256:Nat)])/\Below w.heap.size w w':=by
 go_enter func204,ntmps204
 go_wp2_with (first
  |refine Zk rfl 62 _ rfl _ rfl ?_
  |refine Ze rfl 62 rfl _ Zm ?_)
 go_loopg [7,9] 4 (fun g s7 s9 wr=> ∃k:Nat,k+g=4/\s7= .int .u64 (cN A B (64*k))/\s9= .int .i64 k/\Row wr w.heap.size (Zc A) 62/\Row wr (w.heap.size+1) (Zc B) 62/\Row wr (w.heap.size+1+1) (Zc 0) 62/\Row wr (w.heap.size+1+1+1) (Zc ((A+B)%2^(64*k))) 62/\Below w.heap.size w wr)
 case atStart=>
  refine⟨0,by omega,by rw[show cN A B (64*0)=0 by unfold cN;rw[show Vp A B (64*0)=false from So A B];rfl];rfl,rfl,(Row.two rfl).alloc _,Row.two (by simp),Row.one (by simp),?_,(YX _ _ _).alloc (by simp;omega) _⟩
  rw[show(A+B)%2^(64*0)=0 by simp[Nat.mod_one]]
  exact Row.here (by simp)
 case round=>
  obtain⟨k,hk,rfl,rfl,r0,r1,r2,r3,hb⟩:=hrel
  cases gk with
  |zero=>
   obtain rfl:k=4:=by omega
   rw[show(A+B)%2^(64*4)=(A+B)%2^256 from rfl,Yp]at r3
   clear hk
   have hx: ¬((4:Int)<4):=by omega
   have hcl:=EQ A B (64*4)
   rw[show 64*4=256 from rfl]at hcl ⊢
   have HC:Hid (∃c,cN A B 256=c):=⟨_,rfl⟩
   obtain⟨c,hC⟩:=HC.out
   rw[hC]at hcl ⊢
   have HC:Hid (cN A B 256=c):=hC
   clear hC
   go_wp2_with (first
    |refine Zf rfl 62 _ rfl _ rfl r3 4 _ underlying62 (by exact Zb) ?_
    |refine Zp rfl 62 _ _ rfl _ _ rfl rfl r2 (by exact Zb) (by simp only[Zl]) (Zr _) ?_)
   refine ZY rfl _ rfl (r2.setRow _) 4 _ underlying62 (by exact Zb) rfl _ rfl ⟨by rw[HC.out];rfl,Zo hb (by omega) _⟩
  |succ g=>
   have hlt:(k:Int)<4:=by omega
   have hc0:=ZV r0 k (by omega)
   have hc1:=ZV r1 k (by omega)
   have hc3:=ZV r3 k (by omega)
   have hf3:=r3.frozen k
   have R:Aside (Row wr w.heap.size (Zc A) 62/\Row wr (w.heap.size+1) (Zc B) 62/\Row wr (w.heap.size+1+1) (Zc 0) 62/\Row wr (w.heap.size+1+1+1) (Zc ((A+B)%2^(64*k))) 62/\Below w.heap.size w wr):=⟨r0,r1,r2,r3,hb⟩
   clear r0 r1 r2 r3 hb
   have hcl:=EQ A B (64*k)
   have hl:=IA A B k
   have hs:=Lf A B k
   generalize cN A B (64*k)=c at*
   have S:Aside (lm (A+B) k=Sr (lm A k) (lm B k) c/\cN A B (64*(k+1))=Pp (lm A k) (lm B k) c):=⟨hl,hs⟩
   clear hl hs
   go_wp2
   go_region_law (refine Vv (by rfl) 218 _ _ (by rfl) func218 (by kernel_rfl) (by kernel_rfl) XE XD #[.int .u64 (lm A k),.int .u64 (lm B k),.int .u64 c] (by rfl) _ (YH _ _ _ hcl _) ?_)
   all_goals
    go_wp2
    obtain⟨r0,r1,r2,r3,hb⟩:=R.out
    obtain⟨hl,hs⟩:=S.out
    go_roundg g
    case measure=>omega
    case rel=>
     refine⟨k+1,by omega,by rw[hs],by go_num,(r0.setCell_far _ _ _ (by omega)).drew,(r1.setCell_far _ _ _ (by omega)).drew,(r2.setCell_far _ _ _ (by omega)).drew,?_,(ZL hb (by omega) _ _).drew⟩
     have:=(r3.setCell k (.int .u64 (Sr (lm A k) (lm B k) c:Nat))).drew
     rw[XP (A+B) k _ (by omega) hl.symm]at this
     exact this
theorem XX (A B:Nat)(w:World)(hB:B<2^256):
  Calls Tryz.prog 174 #[.agg (Zc A),.agg (Zc B)] w fun e w'=>e= .returned (.tuple #[.agg (Zc (Wx A B)),.int .i64 (bN A B 256:Nat)])/\Below w.heap.size w w':=by
 have HB:Hid (B<2^256):=hB
 clear hB
 go_enter func174,ntmps174
 go_wp2_with (first
  |refine Zk rfl 62 _ rfl _ rfl ?_
  |refine Ze rfl 62 rfl _ Zm ?_)
 go_loopg [7,9] 4 (fun g s7 s9 wr=> ∃k:Nat,k+g=4/\s7= .int .u64 (bN A B (64*k))/\s9= .int .i64 k/\Row wr w.heap.size (Zc A) 62/\Row wr (w.heap.size+1) (Zc B) 62/\Row wr (w.heap.size+1+1) (Zc 0) 62/\Row wr (w.heap.size+1+1+1) (Zc ((Wx A B)%2^(64*k))) 62/\Below w.heap.size w wr)
 case atStart=>
  refine⟨0,by omega,by rw[show bN A B (64*0)=0 by simp[bN,Nat.mod_one]];rfl,rfl,(Row.two rfl).alloc _,Row.two (by simp),Row.one (by simp),?_,(YX _ _ _).alloc (by simp;omega) _⟩
  rw[show(Wx A B)%2^(64*0)=0 by simp[Nat.mod_one]]
  exact Row.here (by simp)
 case round=>
  obtain⟨k,hk,rfl,rfl,r0,r1,r2,r3,hb⟩:=hrel
  cases gk with
  |zero=>
   obtain rfl:k=4:=by omega
   rw[show(Wx A B)%2^(64*4)=(Wx A B)%2^256 from rfl,Yp]at r3
   clear hk
   have hx: ¬((4:Int)<4):=by omega
   have hcl:=ER A B (64*4)
   rw[show 64*4=256 from rfl]at hcl ⊢
   have HC:Hid (∃c,bN A B 256=c):=⟨_,rfl⟩
   obtain⟨c,hC⟩:=HC.out
   rw[hC]at hcl ⊢
   have HC:Hid (bN A B 256=c):=hC
   clear hC
   go_wp2_with (first
    |refine Zf rfl 62 _ rfl _ rfl r3 4 _ underlying62 (by exact Zb) ?_
    |refine Zp rfl 62 _ _ rfl _ _ rfl rfl r2 (by exact Zb) (by simp only[Zl]) (Zr _) ?_)
   refine ZY rfl _ rfl (r2.setRow _) 4 _ underlying62 (by exact Zb) rfl _ rfl ⟨by rw[HC.out];rfl,Zo hb (by omega) _⟩
  |succ g=>
   have hlt:(k:Int)<4:=by omega
   have hc0:=ZV r0 k (by omega)
   have hc1:=ZV r1 k (by omega)
   have hc3:=ZV r3 k (by omega)
   have hf3:=r3.frozen k
   have R:Aside (Row wr w.heap.size (Zc A) 62/\Row wr (w.heap.size+1) (Zc B) 62/\Row wr (w.heap.size+1+1) (Zc 0) 62/\Row wr (w.heap.size+1+1+1) (Zc ((Wx A B)%2^(64*k))) 62/\Below w.heap.size w wr):=⟨r0,r1,r2,r3,hb⟩
   clear r0 r1 r2 r3 hb
   have hcl:=ER A B (64*k)
   have hl:=ID A B k (by omega) HB.out
   have hs:=NV A B k
   generalize bN A B (64*k)=c at*
   have S:Aside (lm (Wx A B) k=yd (lm A k) (lm B k) c/\bN A B (64*(k+1))=xn (lm A k) (lm B k) c):=⟨hl,hs⟩
   clear hl hs
   go_wp2
   go_region_law (refine Vv (by rfl) 211 _ _ (by rfl) func211 (by kernel_rfl) (by kernel_rfl) N1 NZ #[.int .u64 (lm A k),.int .u64 (lm B k),.int .u64 c] (by rfl) _ (Ld _ _ _ hcl _) ?_)
   all_goals
    go_wp2
    obtain⟨r0,r1,r2,r3,hb⟩:=R.out
    obtain⟨hl,hs⟩:=S.out
    go_roundg g
    case measure=>omega
    case rel=>
     refine⟨k+1,by omega,by rw[hs],by go_num,(r0.setCell_far _ _ _ (by omega)).drew,(r1.setCell_far _ _ _ (by omega)).drew,(r2.setCell_far _ _ _ (by omega)).drew,?_,(ZL hb (by omega) _ _).drew⟩
     have:=(r3.setCell k (.int .u64 (yd (lm A k) (lm B k) c:Nat))).drew
     rw[XP (Wx A B) k _ (by omega) hl.symm]at this
     exact this
theorem W0 (X Y:Nat):Zc X=Zc Y↔X%2^256=Y%2^256:=⟨Iz,fun h=>by rw[<-Yp X,<-Yp Y,h]⟩
theorem II (X Y:Nat):(lm X 0=lm Y 0/\lm X 1=lm Y 1/\lm X 2=lm Y 2/\lm X 3=lm Y 3)↔X%2^256=Y%2^256:=by
 rw[<-W0]
 constructor
 ·rintro⟨h0,h1,h2,h3⟩
  unfold Zc
  rw[h0,h1,h2,h3]
 ·intro h
  have hl: ∀i,i<4->lm X i=lm Y i:=fun i hi=>by
   have h1:=Yi X i hi
   rw[h,Yi Y i hi]at h1
   simp only[Option.some.injEq,Value.int.injEq,true_and]at h1
   omega
  exact⟨hl 0 (by omega),hl 1 (by omega),hl 2 (by omega),hl 3 (by omega)⟩
theorem Qb (X Y:Nat)(w:World):(Op.equalIn 10000 62 (.agg (Zc X)) (.agg (Zc Y))).run Tryz.prog w= .ok (decide (X%2^256=Y%2^256)) w:=by
 have h:=II X Y
 rw[show decide (X%2^256=Y%2^256)=decide (lm X 0=lm Y 0/\lm X 1=lm Y 1/\lm X 2=lm Y 2/\lm X 3=lm Y 3)from decide_eq_decide.2 h.symm]
 clear h
 have u3:=underlying60
 have a3:=isAgg60
 have z3:=sizeOf60
 unfold Zc
 rw[show(10000:Nat)=9999+1 from rfl,Op.equalIn]
 simp only[Sem.run_bind,run_underlying underlying62,Result.andThen_ok];simp only[Std.Legacy.Range.forIn_eq_forIn_range',Std.Legacy.Range.size,Nat.sub_zero,Nat.add_sub_cancel,Nat.div_one,List.range'_succ,List.range'_zero,List.forIn_cons,List.forIn_nil]
 go_simp
 by_cases h1:lm X 0=lm Y 0<;>by_cases h2:lm X 1=lm Y 1<;>by_cases h3:lm X 2=lm Y 2<;>by_cases h4:lm X 3=lm Y 3<;>simp[h1,h2,h3,h4]<;>omega
theorem ZC {o:Oper}{ρ:Operand->Value}(x y:Operand)(u:TypeId)(ho:o.op= .binOp .eql 62 x y u)(X Y:Nat)(hx:ρ x= .agg (Zc X))(hy:ρ y= .agg (Zc Y))(w:World):
  (execOp ρ o).run Tryz.prog w= .ok (.value (.bool (decide (X%2^256=Y%2^256)))) w:=by
 unfold execOp
 simp only[ho,hx,hy]
 simp[eqGuard,run_eql_struct,Qb]
theorem Z3 {o:Oper}{ρ:Operand->Value}(x y:Operand)(u:TypeId)(ho:o.op= .binOp .neq 62 x y u)(X Y:Nat)(hx:ρ x= .agg (Zc X))(hy:ρ y= .agg (Zc Y))(w:World):
  (execOp ρ o).run Tryz.prog w= .ok (.value (.bool (!decide (X%2^256=Y%2^256)))) w:=by
 unfold execOp
 simp only[ho,hx,hy]
 simp[eqGuard,run_neq_struct,Qb]
theorem ZD {P:Program}{ops:Array Oper}{rest:List Oper}{o:Oper}{a:Act}{w:World}{Q:Exit->Act->World->Prop}(hgd:o.guard=none)(v:Value)
  (hr:(execOp a.eval o).run P w= .ok (.value v) w)(h:wpList P ops Q rest (a.put o.dst v) w):wpList P ops Q (o::rest) a w:=
 wpList_plain hgd fun _ hK=>by unfold Oper.wp;rw[hr];exact hK _ _ h
theorem SW (n:Nat)(h:n<18446744073709551616):Zc n=#[.int .u64 n,.int .u64 0,.int .u64 0,.int .u64 0]:=by
 unfold Zc lm
 rw[show 64*0=0 from rfl,Nat.pow_zero,Nat.div_one,Nat.mod_eq_of_lt (show n<2^64 from h),Nat.div_eq_of_lt (Nat.lt_of_lt_of_le h (by decide)),Nat.div_eq_of_lt (Nat.lt_of_lt_of_le h (by decide)),Nat.div_eq_of_lt (Nat.lt_of_lt_of_le h (by decide))]
 rfl
theorem Xk (n:Int)(w:World)(h1:n<9223372036854775808):
  Calls Tryz.prog 74 #[.int .i64 n] w fun e w'=>e= .returned (.agg (Zc n.toNat))/\Below w.heap.size w w':=by
 rw[SW n.toNat (by omega)]
 by_cases h0:0<=n
 ·rw[Int.toNat_of_nonneg h0]
  have hm:max n 0=n:=by omega
  go_enter func74,ntmps74
  go_wp2
  exact ZH rfl _ rfl (Row.here rfl) 4 _ underlying62 (by exact Zb) rfl ⟨rfl,ZQ _⟩
 ·rw[show((n.toNat:Nat):Int)=0 by omega]
  have hm:max n 0=0:=by omega
  go_enter func74,ntmps74
  go_wp2
  exact ZH rfl _ rfl (Row.here rfl) 4 _ underlying62 (by exact Zb) rfl ⟨rfl,ZQ _⟩
theorem Wh (A B:Nat)(w:World)(hA:A<2^256)(hB:B<2^256):
  Calls Tryz.prog 134 #[.agg (Zc A),.agg (Zc B)] w fun e w'=>e= .returned (.int .i64 (Vq A B))/\Below w.heap.size w w':=by
 have rA:Row ((w.alloc (.cells (Zc A) 62)).alloc (.cells (Zc B) 62)) w.heap.size (Zc A) 62:=Row.one rfl
 have rB:Row ((w.alloc (.cells (Zc A) 62)).alloc (.cells (Zc B) 62)) (w.heap.size+1) (Zc B) 62:=Row.here (by simp)
 have HB:Hid (B<2^256):=hB
 have ma:=Nat.mod_eq_of_lt hA
 have mb:=Nat.mod_eq_of_lt hB
 by_cases heq:A=B
 ·subst heq
  clear ma mb hA hB
  go_enter func134,ntmps134
  go_wp2_with (first
   |refine Zk rfl 62 _ rfl _ rfl ?_
   |refine Zf rfl 62 _ rfl _ rfl rA 4 _ underlying62 (by exact Zb) ?_
   |refine Zf rfl 62 _ rfl _ rfl rB 4 _ underlying62 (by exact Zb) ?_
   |refine ZD rfl (.bool true) ((ZC _ _ _ rfl A A rfl rfl _).trans (by rw[decide_eq_true rfl])) ?_)
  go_ret
  exact⟨by simp[Vq],ZS _ _⟩
 ·have HD:Hid (decide (A%2^256=B%2^256)=false):=by show _=_;rw[ma,mb];exact decide_eq_false heq
  have HN:Hid (bN A B 256=if A<B then 1 else 0):=by show _=_;unfold bN;rw[ma,mb]
  by_cases hlt:A<B
  ·have HC:Hid (Vq A B= -1):=by show _=_;unfold Vq;rw[if_pos hlt]
   have hn:((bN A B 256:Nat):Int)=1:=by rw[HN.out,if_pos hlt];rfl
   clear HN hlt heq ma mb hA hB
   go_enter func134,ntmps134
   go_wp2_with (first
    |refine Zk rfl 62 _ rfl _ rfl ?_
    |refine Zf rfl 62 _ rfl _ rfl rA 4 _ underlying62 (by exact Zb) ?_
    |refine Zf rfl 62 _ rfl _ rfl rB 4 _ underlying62 (by exact Zb) ?_
    |refine ZD rfl (.bool false) ((ZC _ _ _ rfl A B rfl rfl _).trans (by rw[HD.out])) ?_
    |(go_at_call 174;refine(XX _ _ _ HB.out).mono ?_;rintro e w2 ⟨rfl,hb2⟩;have b2:=Zh (ZS _ _) (Nat.le_refl _) hb2;clear hb2)
    |refine Ze rfl 62 rfl _ Zm ?_
    |refine ZE rfl 62 _ _ rfl _ rfl rfl _ _ (by exact Zb) (by simp only[Zl]) (Zr _) ?_)
   go_ret
   exact⟨by rw[HC.out];rfl,b2.alloc b2.size _⟩
  ·have HC:Hid (Vq A B=1):=by show _=_;unfold Vq;rw[if_neg hlt,if_pos (by omega)]
   have hn:((bN A B 256:Nat):Int)=0:=by rw[HN.out,if_neg hlt];rfl
   clear HN hlt heq ma mb hA hB
   go_enter func134,ntmps134
   go_wp2_with (first
    |refine Zk rfl 62 _ rfl _ rfl ?_
    |refine Zf rfl 62 _ rfl _ rfl rA 4 _ underlying62 (by exact Zb) ?_
    |refine Zf rfl 62 _ rfl _ rfl rB 4 _ underlying62 (by exact Zb) ?_
    |refine ZD rfl (.bool false) ((ZC _ _ _ rfl A B rfl rfl _).trans (by rw[HD.out])) ?_
    |(go_at_call 174;refine(XX _ _ _ HB.out).mono ?_;rintro e w2 ⟨rfl,hb2⟩;have b2:=Zh (ZS _ _) (Nat.le_refl _) hb2;clear hb2)
    |refine Ze rfl 62 rfl _ Zm ?_
    |refine ZE rfl 62 _ _ rfl _ rfl rfl _ _ (by exact Zb) (by simp only[Zl]) (Zr _) ?_)
   go_ret
   exact⟨by rw[HC.out];rfl,b2.alloc b2.size _⟩
def Lp (A:Nat):Int:=if A<9223372036854775808 then A else 0
def Lq (A:Nat):Bool:=decide (A<9223372036854775808)
theorem Lr (A:Nat):lm A 0=A%18446744073709551616:=by unfold lm;simp
theorem Ls (A:Nat)(w:World)(hA:A<2^256)(h:18446744073709551616<=A):
  Calls Tryz.prog 170 #[.agg (Zc A)] w fun e w'=>e= .returned (.tuple #[.int .i64 0,.bool false])/\Below w.heap.size w w':=by
 have rA:=Row.new w (Zc A) 62
 have hc0:=ZV rA 0 (by omega)
 have HV:Hid ((!decide (A%2^256=lm A 0%2^256))=true):=by
  show _=_
  rw[Lr,Nat.mod_eq_of_lt hA,decide_eq_false];rfl
  intro e
  omega
 clear hA h
 go_enter func170,ntmps170
 go_wp2_with (first
  |refine Zk rfl 62 _ rfl _ rfl ?_
  |refine Zf rfl 62 _ rfl _ rfl rA 4 _ underlying62 (by exact Zb) ?_
  |refine ZD rfl (.bool true) ((Z3 _ _ _ rfl A (lm A 0) rfl (by rw[SW _ (XN A 0)];rfl) _).trans (by rw[HV.out])) ?_)
 go_ret2
 exact⟨rfl,ZQ _⟩
theorem IJ (A:Nat)(w:World)(h:A<18446744073709551616):
  Calls Tryz.prog 170 #[.agg (Zc A)] w fun e w'=>e= .returned (.tuple #[.int .i64 (Lp A),.bool (Lq A)])/\Below w.heap.size w w':=by
 have rA:=Row.new w (Zc A) 62
 have hc0:=ZV rA 0 (by omega)
 rw[Lr,Nat.mod_eq_of_lt h]at hc0
 have HV:Hid ((!decide (A%2^256=A%2^256))=false):=by show _=_;simp
 have HL:Hid (Zc A=#[.int .u64 A,.int .u64 0,.int .u64 0,.int .u64 0]):=SW A h
 by_cases h63:A<9223372036854775808
 ·have h1: ¬((9223372036854775807:Int)<A):=by omega
  have HI:Hid (Lp A=A/\Lq A=true):=⟨if_pos h63,decide_eq_true h63⟩
  clear h h63
  go_enter func170,ntmps170
  go_wp2_with (first
   |refine Zk rfl 62 _ rfl _ rfl ?_
   |refine Zf rfl 62 _ rfl _ rfl rA 4 _ underlying62 (by exact Zb) ?_
   |refine ZD rfl (.bool false) ((Z3 _ _ _ rfl A A rfl (by rw[HL.out];rfl) _).trans (by rw[HV.out])) ?_)
  go_ret2
  exact⟨by rw[HI.out.1,HI.out.2];rfl,ZQ _⟩
 ·have h1:(9223372036854775807:Int)<A:=by omega
  have HI:Hid (Lp A=0/\Lq A=false):=⟨if_neg h63,decide_eq_false h63⟩
  clear h h63
  go_enter func170,ntmps170
  go_wp2_with (first
   |refine Zk rfl 62 _ rfl _ rfl ?_
   |refine Zf rfl 62 _ rfl _ rfl rA 4 _ underlying62 (by exact Zb) ?_
   |refine ZD rfl (.bool false) ((Z3 _ _ _ rfl A A rfl (by rw[HL.out];rfl) _).trans (by rw[HV.out])) ?_)
  go_ret2
  exact⟨by rw[HI.out.1,HI.out.2];rfl,ZQ _⟩
theorem IK (A:Nat)(w:World)(hA:A<2^256):
  Calls Tryz.prog 170 #[.agg (Zc A)] w fun e w'=>e= .returned (.tuple #[.int .i64 (Lp A),.bool (Lq A)])/\Below w.heap.size w w':=by
 by_cases h:A<18446744073709551616
 ·exact IJ A w h
 ·rw[show Lp A=0 from if_neg (by omega),show Lq A=false from decide_eq_false (by omega)]
  exact Ls A w hA (by omega)
theorem Qc (A:Nat):bitLen A<=63↔A<9223372036854775808:=by
 have h:=bitLen_spec A
 constructor
 ·intro hl
  exact Nat.lt_of_lt_of_le h.1 (Nat.pow_le_pow_right (by decide) hl)
 ·intro hA
  unfold bitLen
  split
  ·omega
  ·rename_i h0
   have:=(Nat.log2_lt h0).2 (show A<2^63 from hA)
   omega
theorem IL (A:Nat)(w:World)(hA:A<2^256):
  Calls Tryz.prog 67 #[.agg (Zc A)] w fun e w'=>e= .returned (.tuple #[.int .i64 (Lp A),.bool (Lq A)])/\Below w.heap.size w w':=by
 by_cases h:A<9223372036854775808
 ·rw[show Lp A=A from if_pos h,show Lq A=true from decide_eq_true h]
  exact IH A w h ((Qc A).2 h)
 ·rw[show Lp A=0 from if_neg h,show Lq A=false from decide_eq_false h]
  refine E2 A w hA ?_
  have:=Qc A
  omega
theorem Yn {P:Program}{o:Oper}{ρ:Operand->Value}(t:TypeId)(x ix:Operand)(ho:o.op= .index t x ix)(hu:P.underlying t=some .string)(S:ByteArray)(hx:ρ x= .string S)
  (hS:S.data.toList.map UInt8.toNat=(List.range 256).map bitLen)(k:IntKind)(i:Int)(hi:ρ ix= .int k i)(h0:0<=i)(h1:i<256)(w:World):
  (execOp ρ o).run P w= .ok (.value (.int .u8 (bitLen i.toNat))) w:=by
 have hsz:S.size=256:=by
  have:=congrArg List.length hS
  simpa using this
 have hlt:i.toNat<S.size:=by omega
 have hget:(S[i.toNat]'hlt).toNat=bitLen i.toNat:=by
  have h2:=congrArg (fun l:List Nat=>l[i.toNat]?) hS
  simp only[List.getElem?_map]at h2
  rw[List.getElem?_range (by omega)]at h2
  have h3:S.data.toList[i.toNat]?=some (S[i.toNat]'hlt):=by
   rw[Array.getElem?_toList]
   exact Array.getElem?_eq_getElem hlt
  rw[h3]at h2
  simpa using h2
 unfold execOp
 simp only[ho,hx,hi,Sem.run_bind]
 rw[run_index_string w t S k i hu,dif_pos ⟨h0,by omega⟩,hget]
 rfl
theorem WA {k:IntKind}{a b:Int}(h:a=b):Ending.returned (.int k a)= .returned (.int k b):=by rw[h]
theorem Y1 (q n:Nat)(hq:q<=8)(hn:n<=56):wrap64 ((n:Int)+wrap64 (q:Int))=((n+q:Nat):Int):=by unfold wrap64;omega
theorem SY (q:Nat)(hq:q<=8):wrap64 (wrap64 (q:Int))=(q:Int):=by unfold wrap64;omega
set_option maxRecDepth 1000000 in
theorem E3 (x:Nat)(w:World)(h0:0<=x)(h1:x<256):
  Calls Tryz.prog 144 #[.int .u64 x] w fun e w'=>e= .returned (.int .i64 (bitLen x))/\w'=w:=by
 have t0: ¬(4294967296:Int)<=(x:Int):=by omega
 have t1: ¬(65536:Int)<=(x:Int):=by omega
 have t2: ¬(256:Int)<=(x:Int):=by omega
 have HX:Hid (0<=(x:Int)/\(x:Int)<256):=⟨by omega,by omega⟩
 have HB8:Hid (bitLen (x/1)<=8):=bitLen_le8 _ (by omega)
 have HB:Hid (bitLen x=0+bitLen (x/1)):=by
  show _=_
  rw[Nat.div_one];omega
 clear h0 h1
 go_enter func144,ntmps144
 go_wp2_with (first
  |(refine ZD rfl _ (Yn 9 _ _ rfl underlying9 _ rfl ?_ _ _ rfl ?_ ?_ _) ?_;(· kernel_rfl);(· exact HX.out.1);(· exact HX.out.2)))
 go_ret
 have hb:=HB8.out
 rw[Nat.div_one]at hb
 exact⟨WA (SY _ hb),rfl⟩
set_option maxRecDepth 1000000 in
theorem E4 (x:Nat)(w:World)(h0:256<=x)(h1:x<65536):
  Calls Tryz.prog 144 #[.int .u64 x] w fun e w'=>e= .returned (.int .i64 (bitLen x))/\w'=w:=by
 have t0: ¬(4294967296:Int)<=(x:Int):=by omega
 have t1: ¬(65536:Int)<=(x:Int):=by omega
 have t2:(256:Int)<=(x:Int):=by omega
 have HX:Hid (0<=(x:Int)/256/\(x:Int)/256<256):=⟨by omega,by omega⟩
 have HB8:Hid (bitLen (x/256)<=8):=bitLen_le8 _ (by omega)
 have HB:Hid (bitLen x=8+bitLen (x/256)):=by
  show _=_
  exact bitLen_shift x 8 (show x/256≠0 by omega)
 clear h0 h1
 go_enter func144,ntmps144
 go_wp2_with (first
  |(refine ZD rfl _ (Yn 9 _ _ rfl underlying9 _ rfl ?_ _ _ rfl ?_ ?_ _) ?_;(· kernel_rfl);(· exact HX.out.1);(· exact HX.out.2)))
 go_ret
 refine⟨WA ?_,rfl⟩
 rw[HB.out]
 exact Y1 _ 8 HB8.out (by decide)
set_option maxRecDepth 1000000 in
theorem E5 (x:Nat)(w:World)(h0:65536<=x)(h1:x<16777216):
  Calls Tryz.prog 144 #[.int .u64 x] w fun e w'=>e= .returned (.int .i64 (bitLen x))/\w'=w:=by
 have t0: ¬(4294967296:Int)<=(x:Int):=by omega
 have t1:(65536:Int)<=(x:Int):=by omega
 have t2: ¬(256:Int)<=(x:Int)/65536:=by omega
 have HX:Hid (0<=(x:Int)/65536/\(x:Int)/65536<256):=⟨by omega,by omega⟩
 have HB8:Hid (bitLen (x/65536)<=8):=bitLen_le8 _ (by omega)
 have HB:Hid (bitLen x=16+bitLen (x/65536)):=by
  show _=_
  exact bitLen_shift x 16 (show x/65536≠0 by omega)
 clear h0 h1
 go_enter func144,ntmps144
 go_wp2_with (first
  |(refine ZD rfl _ (Yn 9 _ _ rfl underlying9 _ rfl ?_ _ _ rfl ?_ ?_ _) ?_;(· kernel_rfl);(· exact HX.out.1);(· exact HX.out.2)))
 go_ret
 refine⟨WA ?_,rfl⟩
 rw[HB.out]
 exact Y1 _ 16 HB8.out (by decide)
set_option maxRecDepth 1000000 in
theorem E6 (x:Nat)(w:World)(h0:16777216<=x)(h1:x<4294967296):
  Calls Tryz.prog 144 #[.int .u64 x] w fun e w'=>e= .returned (.int .i64 (bitLen x))/\w'=w:=by
 have t0: ¬(4294967296:Int)<=(x:Int):=by omega
 have t1:(65536:Int)<=(x:Int):=by omega
 have t2:(256:Int)<=(x:Int)/65536:=by omega
 have HX:Hid (0<=(x:Int)/65536/256/\(x:Int)/65536/256<256):=⟨by omega,by omega⟩
 have HE:Hid (x/65536/256=x/16777216):=by show _=_;omega
 have HB8:Hid (bitLen (x/16777216)<=8):=bitLen_le8 _ (by omega)
 have HB:Hid (bitLen x=24+bitLen (x/16777216)):=by
  show _=_
  exact bitLen_shift x 24 (show x/16777216≠0 by omega)
 clear h0 h1
 go_enter func144,ntmps144
 go_wp2_with (first
  |(refine ZD rfl _ (Yn 9 _ _ rfl underlying9 _ rfl ?_ _ _ rfl ?_ ?_ _) ?_;(· kernel_rfl);(· exact HX.out.1);(· exact HX.out.2)))
 go_ret
 refine⟨WA ?_,rfl⟩
 have hb:=HB8.out
 rw[HB.out]
 rw[<-HE.out]at hb ⊢
 exact Y1 _ 24 hb (by decide)
set_option maxRecDepth 1000000 in
theorem E7 (x:Nat)(w:World)(h0:4294967296<=x)(h1:x<1099511627776):
  Calls Tryz.prog 144 #[.int .u64 x] w fun e w'=>e= .returned (.int .i64 (bitLen x))/\w'=w:=by
 have t0:(4294967296:Int)<=(x:Int):=by omega
 have t1: ¬(65536:Int)<=(x:Int)/4294967296:=by omega
 have t2: ¬(256:Int)<=(x:Int)/4294967296:=by omega
 have HX:Hid (0<=(x:Int)/4294967296/\(x:Int)/4294967296<256):=⟨by omega,by omega⟩
 have HB8:Hid (bitLen (x/4294967296)<=8):=bitLen_le8 _ (by omega)
 have HB:Hid (bitLen x=32+bitLen (x/4294967296)):=by
  show _=_
  exact bitLen_shift x 32 (show x/4294967296≠0 by omega)
 clear h0 h1
 go_enter func144,ntmps144
 go_wp2_with (first
  |(refine ZD rfl _ (Yn 9 _ _ rfl underlying9 _ rfl ?_ _ _ rfl ?_ ?_ _) ?_;(· kernel_rfl);(· exact HX.out.1);(· exact HX.out.2)))
 go_ret
 refine⟨WA ?_,rfl⟩
 rw[HB.out]
 exact Y1 _ 32 HB8.out (by decide)
set_option maxRecDepth 1000000 in
theorem E8 (x:Nat)(w:World)(h0:1099511627776<=x)(h1:x<281474976710656):
  Calls Tryz.prog 144 #[.int .u64 x] w fun e w'=>e= .returned (.int .i64 (bitLen x))/\w'=w:=by
 have t0:(4294967296:Int)<=(x:Int):=by omega
 have t1: ¬(65536:Int)<=(x:Int)/4294967296:=by omega
 have t2:(256:Int)<=(x:Int)/4294967296:=by omega
 have HX:Hid (0<=(x:Int)/4294967296/256/\(x:Int)/4294967296/256<256):=⟨by omega,by omega⟩
 have HE:Hid (x/4294967296/256=x/1099511627776):=by show _=_;omega
 have HB8:Hid (bitLen (x/1099511627776)<=8):=bitLen_le8 _ (by omega)
 have HB:Hid (bitLen x=40+bitLen (x/1099511627776)):=by
  show _=_
  exact bitLen_shift x 40 (show x/1099511627776≠0 by omega)
 clear h0 h1
 go_enter func144,ntmps144
 go_wp2_with (first
  |(refine ZD rfl _ (Yn 9 _ _ rfl underlying9 _ rfl ?_ _ _ rfl ?_ ?_ _) ?_;(· kernel_rfl);(· exact HX.out.1);(· exact HX.out.2)))
 go_ret
 refine⟨WA ?_,rfl⟩
 have hb:=HB8.out
 rw[HB.out]
 rw[<-HE.out]at hb ⊢
 exact Y1 _ 40 hb (by decide)
set_option maxRecDepth 1000000 in
theorem E9 (x:Nat)(w:World)(h0:281474976710656<=x)(h1:x<72057594037927936):
  Calls Tryz.prog 144 #[.int .u64 x] w fun e w'=>e= .returned (.int .i64 (bitLen x))/\w'=w:=by
 have t0:(4294967296:Int)<=(x:Int):=by omega
 have t1:(65536:Int)<=(x:Int)/4294967296:=by omega
 have t2: ¬(256:Int)<=(x:Int)/4294967296/65536:=by omega
 have HX:Hid (0<=(x:Int)/4294967296/65536/\(x:Int)/4294967296/65536<256):=⟨by omega,by omega⟩
 have HE:Hid (x/4294967296/65536=x/281474976710656):=by show _=_;omega
 have HB8:Hid (bitLen (x/281474976710656)<=8):=bitLen_le8 _ (by omega)
 have HB:Hid (bitLen x=48+bitLen (x/281474976710656)):=by
  show _=_
  exact bitLen_shift x 48 (show x/281474976710656≠0 by omega)
 clear h0 h1
 go_enter func144,ntmps144
 go_wp2_with (first
  |(refine ZD rfl _ (Yn 9 _ _ rfl underlying9 _ rfl ?_ _ _ rfl ?_ ?_ _) ?_;(· kernel_rfl);(· exact HX.out.1);(· exact HX.out.2)))
 go_ret
 refine⟨WA ?_,rfl⟩
 have hb:=HB8.out
 rw[HB.out]
 rw[<-HE.out]at hb ⊢
 exact Y1 _ 48 hb (by decide)
set_option maxRecDepth 1000000 in
theorem Da (x:Nat)(w:World)(h0:72057594037927936<=x)(h1:x<18446744073709551616):
  Calls Tryz.prog 144 #[.int .u64 x] w fun e w'=>e= .returned (.int .i64 (bitLen x))/\w'=w:=by
 have t0:(4294967296:Int)<=(x:Int):=by omega
 have t1:(65536:Int)<=(x:Int)/4294967296:=by omega
 have t2:(256:Int)<=(x:Int)/4294967296/65536:=by omega
 have HX:Hid (0<=(x:Int)/4294967296/65536/256%256/\(x:Int)/4294967296/65536/256%256<256):=⟨by omega,by omega⟩
 have HE:Hid (x/4294967296/65536/256%256=x/72057594037927936):=by show _=_;omega
 have HB8:Hid (bitLen (x/72057594037927936)<=8):=bitLen_le8 _ (by omega)
 have HB:Hid (bitLen x=56+bitLen (x/72057594037927936)):=by
  show _=_
  exact bitLen_shift x 56 (show x/72057594037927936≠0 by omega)
 clear h0 h1
 go_enter func144,ntmps144
 go_wp2_with (first
  |(refine ZD rfl _ (Yn 9 _ _ rfl underlying9 _ rfl ?_ _ _ rfl ?_ ?_ _) ?_;(· kernel_rfl);(· exact HX.out.1);(· exact HX.out.2)))
 go_ret
 refine⟨WA ?_,rfl⟩
 have hb:=HB8.out
 rw[HB.out]
 rw[<-HE.out]at hb ⊢
 exact Y1 _ 56 hb (by decide)
theorem Qd (x:Nat)(w:World)(h:x<18446744073709551616):
  Calls Tryz.prog 144 #[.int .u64 x] w fun e w'=>e= .returned (.int .i64 (bitLen x))/\w'=w:=by
 by_cases h0:x<256
 ·exact E3 x w (by omega) h0
 by_cases h1:x<65536
 ·exact E4 x w (by omega) h1
 by_cases h2:x<16777216
 ·exact E5 x w (by omega) h2
 by_cases h3:x<4294967296
 ·exact E6 x w (by omega) h3
 by_cases h4:x<1099511627776
 ·exact E7 x w (by omega) h4
 by_cases h5:x<281474976710656
 ·exact E8 x w (by omega) h5
 by_cases h6:x<72057594037927936
 ·exact E9 x w (by omega) h6
 exact Da x w (by omega) h
theorem Lt (x:Nat)(h:x<18446744073709551616):bitLen x<=64:=by
 unfold bitLen
 split
 ·omega
 ·rename_i h0
  have:=(Nat.log2_lt h0).2 (show x<2^64 from h)
  omega
theorem F3 (A k:Nat)(h:A<2^(64*(k+1))):lm A k=A/2^(64*k):=by
 unfold lm
 refine Nat.mod_eq_of_lt (Nat.div_lt_of_lt_mul ?_)
 rw[<-Nat.pow_add]
 exact h
theorem Lu (A k:Nat)(h:A<2^(64*(k+1)))(h0:lm A k≠0):bitLen A=64*k+bitLen (lm A k):=by
 rw[F3 A k h]at h0 ⊢
 exact bitLen_shift A (64*k) h0
theorem Db (A k:Nat)(h:A<2^(64*(k+1)))(h0:lm A k=0):A<2^(64*k):=by
 rw[F3 A k h]at h0
 exact(Nat.div_eq_zero_iff_lt (Nat.two_pow_pos _)).1 h0
theorem Vf (A:Nat)(w:World)(hA:A<2^256):
  Calls Tryz.prog 87 #[.agg (Zc A)] w fun e w'=>e= .returned (.int .i64 (bitLen A))/\Below w.heap.size w w':=by
 have HA:Hid (A<2^256):=hA
 clear hA
 go_enter func87,ntmps87
 go_wp2_with (first
  |refine Zk rfl 62 _ rfl _ rfl ?_)
 go_loopg [5] 4 (fun g s5 wr=> ∃k:Nat,k+g=4/\s5= .int .i64 k/\A<2^(64*g)/\Row wr w.heap.size (Zc A) 62/\Below w.heap.size w wr)
 case atStart=>exact⟨0,by omega,rfl,HA.out,Row.new _ _ _,ZQ _⟩
 case round=>
  obtain⟨k,hk,rfl,hlt,r0,hb⟩:=hrel
  cases gk with
  |zero=>
   obtain rfl:k=4:=by omega
   obtain rfl:A=0:=by simpa using hlt
   clear hlt hk HA
   have hx: ¬((4:Int)<4):=by omega
   go_wp2
   go_ret
   exact⟨rfl,hb⟩
  |succ g=>
   have hk4:(k:Int)<4:=by omega
   have hc0:=ZV r0 g (by omega)
   have hsub:(3:Int)-k=g:=by omega
   have hl:=XN A g
   by_cases h0:lm A g=0
   ·have R:Aside (A<2^(64*g)/\Row wr w.heap.size (Zc A) 62/\Below w.heap.size w wr):=⟨Db A g hlt h0,r0,hb⟩
    rw[h0]at hc0
    clear r0 hb hlt HA h0 hl
    go_wp2
    obtain⟨h1,r0,hb⟩:=R.out
    go_roundg g
    ·exact⟨k+1,by omega,by go_num,h1,r0,hb⟩
    omega
   ·have R:Aside (bitLen A=64*g+bitLen (lm A g)/\bitLen (lm A g)<=64/\Below w.heap.size w wr):=⟨Lu A g hlt h0,?_,hb⟩
    ·have hne:((lm A g:Nat):Int)≠0:=by omega
     have HL:Hid (lm A g<18446744073709551616):=hl
     clear r0 hb hlt HA h0 hl
     go_wp2_with (first
      |(go_at_call 144;refine(Qd _ _ HL.out).mono ?_;rintro e w2 ⟨rfl,rfl⟩))
     go_ret
     obtain⟨h1,h2,hb⟩:=R.out
     refine⟨WA ?_,hb⟩
     rw[h1]
     unfold wrap64
     omega
    ·exact Lt _ hl
