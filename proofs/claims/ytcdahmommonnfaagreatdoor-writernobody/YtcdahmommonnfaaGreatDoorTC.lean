import Derived.Test.YtcdahmommonnfaaGreatDoorTB
set_option maxRecDepth 100000
set_option maxHeartbeats 8000000
namespace Go.Proofs.YtcdahmommonnfaaGreatDoor
set_option linter.all false
open Go.RowKit
open Go.Proofs.Tryz
theorem Na {q:Nat}(h:q<2^256):bitLen q<=256:=by
 unfold bitLen
 split
 ·exact Nat.zero_le _
 ·rename_i h0
  have:=(Nat.log2_lt h0).2 h;omega
theorem II (g0:Nat)(v:Option Addr)(P q G:Nat)(r f:Option Addr)(s:List UInt8)(w:World)(h0:0<q)(h1:q<2^256)(r0:Row w g0 (tpC true s) 132)(h:UT w v P q G r f):
  Calls prog 197 #[.pointer (some ⟨g0,0,none⟩),.pointer v] w fun e w'=>e= .returned (.tuple #[.agg (Zc (drN q s)),.int .i64 (drE q s)])/\Row w' g0 (tpC true (drT q s)) 132/\Kept [g0] w w':=by
 have hig:=fun w' (hb:Below w.heap.size w w')=>UM v P q G r f w' h0 h1 (h.below hb)
 have hq:=fun w' (hb:Below w.heap.size w w')=>V1 v P q G r f w' (h.below hb)
 have hl:=fun w'=>XW q w' h1
 have hb256:=Na h1;have hby:(bitLen q+7)/8=byN q:=rfl;have hpos:=F5 h0;have hfew:=fun(g:Nat) (u:List UInt8) w' (hf:u.length<byN q) (hr:Row w' g (tpC true u) 132)=>QE g (bitLen q) u w' hb256 hf hr
 have hok:=fun(g:Nat) (u:List UInt8) w' (hf:byN q<=u.length) (hr:Row w' g (tpC true u) 132)=>O9 g (bitLen q) u w' hb256 hf hr
 rw[hby]at hok;have hcmp:=fun(A:Nat) w' (hA:A<2^256)=>XF A q w' hA h1
 clear h hby
 go_enter func197,ntmps197
 have sb:=Z9 w;iterate 2 go_step
 refine rp ?_;refine ZJ (by rfl) 39 rfl _ Zv ?_;intro g4 z0 n0 r4 k;simp only[pv];have d0x4:=l_l r0.lt n0;have b4:=Nat.le_trans sb.size n0;clear n0;replace r0:=k.ro r0;replace sb:=kk sb k;clear k;refine p_v (.int .i64 0) (fun _=>rfl) (Za ?_);simp only[pv];iterate 4 go_step
 refine rp ?_;refine p_m ?_;simp only[pv];refine p_c 61 func61 #[.pointer (some ⟨g0,0,none⟩)] (Vx g0 true s _ r0) ?_;intro z1001 k;simp only[pv];replace r4:=k.ro r4;replace r0:=k.ro r0;replace sb:=kk sb k;clear k;refine p_v _ (Zp _ _ rfl true rfl) ?_;refine p_m ?_;refine p_m ?_;simp only[pv];refine p_c 196 func196 #[.pointer v] (hig _ sb) ?_;intro z1005 k;simp only[pv];replace r4:=k.ro r4;replace r0:=k.ro r0;replace sb:=kk sb k;clear k;refine p_v _ (Zp _ _ rfl true rfl) ?_;refine p_k false (.bool false) (Za ?_);simp only[pv];iterate 7 go_step
 refine rp ?_;refine p_m ?_;simp only[pv];refine p_c 222 func222 #[.pointer v] (hq _ sb) ?_;intro z3001 k;simp only[pv];replace r4:=k.ro r4;replace r0:=k.ro r0;replace sb:=kk sb k;clear k;refine ZJ (by rfl) 39 rfl _ Zv ?_;intro g6 z3002 n0 r6 k;simp only[pv];have d4x6:=l_l r4.lt n0;have d0x6:=l_l r0.lt n0;have b6:=Nat.le_trans sb.size n0;clear n0;replace r4:=k.ro r4;replace r0:=k.ro r0;replace sb:=kk sb k;clear k;refine p_p r6 q ?_;clear r6;intro z3003 r6 k;simp only[Act.put];replace r4:=k.ro r4;replace r0:=k.ro r0;replace sb:=kk sb k;clear k;refine Za ?_;iterate 3 go_step
 refine rp ?_;refine p_m ?_;simp only[pv];refine p_v (.pointer (some ⟨g0,0,none⟩)) (Zl _ rfl g0 0 rfl) ?_;simp only[pv];refine Zf (by rfl) 132 _ rfl _ 0 rfl r0.r _ (Zu _) _ underlying132 rfl WK ?_;simp only[pv];refine ZJ (by rfl) 132 rfl _ LE ?_;intro g7 z4003 n0 r7 k;simp only[pv];have d4x7:=l_l r4.lt n0;have d0x7:=l_l r0.lt n0;have d6x7:=l_l r6.lt n0;have b7:=Nat.le_trans sb.size n0;clear n0;replace r4:=k.ro r4;replace r0:=k.ro r0;replace r6:=k.ro r6;replace sb:=kk sb k;clear k;refine Z0 (by rfl) 132 _ _ rfl _ rfl r7 (tpC true s) rfl (by exact WK) (by rfl) (PY _ _) ?_;clear r7;intro z4004 r7 k;simp only[Act.put];replace r4:=k.ro r4;replace r0:=k.ro r0;replace r6:=k.ro r6;replace sb:=kk sb k;clear k;refine Za ?_;clear hq hig;have sk:=Kept.trans (Kept.refl [g0] w) (Kept.ofBelow sb) (by simp);clear sb;have hd0:QB q (s.length+1) s=drw q s:=rfl;have HH:Hid (0<q/\q<2^256/\bitLen q<=256/\0<byN q/\QB q (s.length+1) s=drw q s):=⟨h0,h1,hb256,hpos,hd0⟩;clear h0 h1 hb256 hpos hd0
 go_wp2_with fail
 go_loopg [8,9] s.length (fun g s8 s9 wr=> ∃u:List UInt8,Hid (QB q (g+1) u=drw q s)/\u.length<=g/\Row wr g4 (Zc 0) 39/\Row wr g0 (tpC true s) 132/\Row wr g6 (Zc q) 39/\Row wr g7 (tpC true u) 132/\Kept [g0] w wr)
 case atStart=>exact⟨s,HH.out.2.2.2.2,Nat.le_refl _,r4,r0,r6,r7,sk⟩
 case round=>
  clear r4 r0 r6 r7 sk;obtain⟨u,hu,hul,r4,r0,r6,r7,sk⟩:=hrel;by_cases hf:u.length<byN q
  ·have HD:Hid (drw q s=none):=by show drw q s=none;rw[<-hu.out,PV hf]
   clear hu hul;iterate 2 go_step
   refine rp ?_;refine p_l r6.r ?_;simp only[pv];refine p_c 82 func82 #[.agg (Zc q)] (hl _) ?_;intro z5001 k;simp only[pv];replace r4:=k.ro r4;replace r0:=k.ro r0;replace r6:=k.ro r6;replace r7:=k.ro r7;replace sk:=sk.trans k (by simp<;>omega);clear k;refine p_c 223 func223 #[.pointer (some ⟨g7,0,none⟩),.int .i64 (bitLen q:Nat)] (hfew g7 u _ hf r7) ?_;intro z5002 k;simp only[pv];replace r4:=k.ro r4;replace r0:=k.ro r0;replace r6:=k.ro r6;replace r7:=k.ro r7;replace sk:=sk.trans k (by simp<;>omega);clear k;refine p_m ?_;refine p_e ?_;refine p_e ?_;simp only[pv];refine ZJ (by rfl) 39 rfl _ Zv ?_;intro g8 z5006 n0 r8 k;simp only[pv];have d4x8:=l_l r4.lt n0;have d0x8:=l_l r0.lt n0;have d6x8:=l_l r6.lt n0;have d7x8:=l_l r7.lt n0;have b8:=Nat.le_trans sk.size n0;clear n0;replace r4:=k.ro r4;replace r0:=k.ro r0;replace r6:=k.ro r6;replace r7:=k.ro r7;replace sk:=sk.trans k (by simp<;>omega);clear k;refine p_p r8 0 ?_;clear r8;intro z5007 r8 k;simp only[Act.put];replace r4:=k.ro r4;replace r0:=k.ro r0;replace r6:=k.ro r6;replace r7:=k.ro r7;replace sk:=sk.trans k (by simp<;>omega);clear k;refine p_a (Za ?_);simp only[pv];clear hf;iterate 4 go_step
   refine rp ?_;refine p_m ?_;simp only[pv];refine p_v _ (ZC .i64 _ _ _ _ rfl 5 0 rfl rfl true rfl) (Za ?_);simp only[pv];iterate 4 go_step
   refine rp ?_;refine p_v _ (ZS _ rfl _ ZO) ?_;refine p_m ?_;simp only[pv];refine p_p r4 0 ?_;clear r4;intro z7002 r4 k;simp only[Act.put];replace r0:=k.ro r0;replace sk:=sk.trans k (by simp<;>omega);clear k;refine p_a (Za ?_);simp only[pv];go_wp2;obtain⟨e1,e2,_,e4,_⟩:=QC HD.out;exact Yl rfl _ rfl r4 4 _ underlying39 (by exact Ze) rfl _ rfl ⟨by rw[e1,e4];rfl,by rw[e2];exact r0,sk⟩
  ·have hlt:QA q (u.take (byN q))<2^256:=by
    unfold QA;exact Nat.lt_of_lt_of_le (Nat.mod_lt _ (Nat.two_pow_pos _)) (Nat.pow_le_pow_right (by decide) HH.out.2.2.1)
   have hu':byN q<=u.length:=Nat.le_of_not_lt hf;have hok':=fun w' hr=>hok g7 u w' hu' hr
   have e0:WR (u.take (byN q))%2^bitLen q=QA q (u.take (byN q)):=rfl;rw[e0]at hok';have hc':=fun w'=>hcmp (QA q (u.take (byN q))) w' hlt
   have hneg:=Qj (QA q (u.take (byN q))) q;clear e0 hok hcmp hfew;by_cases ht:QA q (u.take (byN q))<q
   ·have HD:Hid (drw q s=some (QA q (u.take (byN q)),u.drop (byN q))):=by show drw q s=_;rw[<-hu.out,PX hf ht]
    rw[decide_eq_true ht]at hneg;clear hu hul hu' hlt;generalize QA q (u.take (byN q))=X at*;generalize u.drop (byN q)=u2 at*;clear hf ht;iterate 2 go_step
    refine rp ?_;refine p_l r6.r ?_;simp only[pv];refine p_c 82 func82 #[.agg (Zc q)] (hl _) ?_;intro z5001 k;simp only[pv];replace r4:=k.ro r4;replace r0:=k.ro r0;replace r6:=k.ro r6;replace r7:=k.ro r7;replace sk:=sk.trans k (by simp<;>omega);clear k;refine p_f 223 func223 #[.pointer (some ⟨g7,0,none⟩),.int .i64 (bitLen q:Nat)] (hok' _ r7) ?_;clear r7;rintro _ z5002 ⟨rfl,r7,k⟩;refine⟨_,rfl,?_⟩;simp only[pv];replace r4:=k.ro r4;replace r0:=k.ro r0;replace r6:=k.ro r6;replace sk:=sk.trans k (by simp<;>omega);clear k;refine p_m ?_;refine p_e ?_;refine p_e ?_;simp only[pv];refine ZJ (by rfl) 39 rfl _ Zv ?_;intro g8 z5006 n0 r8 k;simp only[pv];have d4x8:=l_l r4.lt n0;have d0x8:=l_l r0.lt n0;have d6x8:=l_l r6.lt n0;have d7x8:=l_l r7.lt n0;have b8:=Nat.le_trans sk.size n0;clear n0;replace r4:=k.ro r4;replace r0:=k.ro r0;replace r6:=k.ro r6;replace r7:=k.ro r7;replace sk:=sk.trans k (by simp<;>omega);clear k;refine p_p r8 X ?_;clear r8;intro z5007 r8 k;simp only[Act.put];replace r4:=k.ro r4;replace r0:=k.ro r0;replace r6:=k.ro r6;replace r7:=k.ro r7;replace sk:=sk.trans k (by simp<;>omega);clear k;refine p_a (Za ?_);simp only[pv];clear hok';iterate 4 go_step
    refine rp ?_;refine p_m ?_;simp only[pv];refine p_v _ (ZC .i64 _ _ _ _ rfl 0 0 rfl rfl false rfl) (Za ?_);simp only[pv];iterate 7 go_step
    refine rp ?_;refine p_l r8.r ?_;simp only[pv];refine p_l r6.r ?_;simp only[pv];refine p_c 83 func83 #[.agg (Zc X),.agg (Zc q)] (hc' _) ?_;intro z8002 k;simp only[pv];replace r4:=k.ro r4;replace r0:=k.ro r0;replace r6:=k.ro r6;replace r7:=k.ro r7;replace r8:=k.ro r8;replace sk:=sk.trans k (by simp<;>omega);clear k;refine p_v _ (YV _ _ _ _ rfl (WB X q) 0 rfl rfl true hneg) (Za ?_);simp only[pv];iterate 4 go_step
    refine rp ?_;refine p_m ?_;simp only[pv];refine Zf (by rfl) 132 _ rfl _ 0 rfl r7.r _ (Zu _) _ underlying132 rfl WK ?_;simp only[pv];refine p_v (.pointer (some ⟨g0,0,none⟩)) (Zl _ rfl g0 0 rfl) ?_;simp only[pv];refine Z0 (by rfl) 132 _ _ rfl _ rfl r0 (tpC true u2) rfl (by exact WK) (by rfl) (PY _ _) ?_;clear r0;intro z9003 r0 k;simp only[Act.put];replace r4:=k.ro r4;replace r6:=k.ro r6;replace r7:=k.ro r7;replace r8:=k.ro r8;replace sk:=sk.trans k (by simp<;>omega);clear k;refine Za ?_;iterate 3 go_step
    refine rp ?_;refine p_l r8.r ?_;simp only[pv];refine p_p r4 X ?_;clear r4;intro z10001 r4 k;simp only[Act.put];replace r0:=k.ro r0;replace r8:=k.ro r8;replace sk:=sk.trans k (by simp<;>omega);clear k;refine p_v (.int .i64 0) (fun _=>rfl) (Za ?_);simp only[pv];go_wp2;obtain⟨e1,e2,_,e4,_⟩:=Sa HD.out;exact Yl rfl _ rfl r4 4 _ underlying39 (by exact Ze) rfl _ rfl ⟨by rw[e1,e4];rfl,by rw[e2];exact r0,sk⟩
   ·cases gk with
    |zero=>exact absurd HH.out.2.2.2.1 (by omega)
    |succ g=>
    have hu2:Hid (QB q (g+1) (u.drop (byN q))=drw q s):=by show QB q (g+1) (u.drop (byN q))=drw q s;rw[<-hu.out,Rw hf ht]
    have hl2:(u.drop (byN q)).length<=g:=by
     have:=HH.out.2.2.2.1;rw[List.length_drop];omega
    rw[decide_eq_false ht]at hneg;clear hu hul hu' hlt;generalize QA q (u.take (byN q))=X at*;generalize u.drop (byN q)=u2 at*;clear hf ht;iterate 2 go_step
    refine rp ?_;refine p_l r6.r ?_;simp only[pv];refine p_c 82 func82 #[.agg (Zc q)] (hl _) ?_;intro z5001 k;simp only[pv];replace r4:=k.ro r4;replace r0:=k.ro r0;replace r6:=k.ro r6;replace r7:=k.ro r7;replace sk:=sk.trans k (by simp<;>omega);clear k;refine p_f 223 func223 #[.pointer (some ⟨g7,0,none⟩),.int .i64 (bitLen q:Nat)] (hok' _ r7) ?_;clear r7;rintro _ z5002 ⟨rfl,r7,k⟩;refine⟨_,rfl,?_⟩;simp only[pv];replace r4:=k.ro r4;replace r0:=k.ro r0;replace r6:=k.ro r6;replace sk:=sk.trans k (by simp<;>omega);clear k;refine p_m ?_;refine p_e ?_;refine p_e ?_;simp only[pv];refine ZJ (by rfl) 39 rfl _ Zv ?_;intro g8 z5006 n0 r8 k;simp only[pv];have d4x8:=l_l r4.lt n0;have d0x8:=l_l r0.lt n0;have d6x8:=l_l r6.lt n0;have d7x8:=l_l r7.lt n0;have b8:=Nat.le_trans sk.size n0;clear n0;replace r4:=k.ro r4;replace r0:=k.ro r0;replace r6:=k.ro r6;replace r7:=k.ro r7;replace sk:=sk.trans k (by simp<;>omega);clear k;refine p_p r8 X ?_;clear r8;intro z5007 r8 k;simp only[Act.put];replace r4:=k.ro r4;replace r0:=k.ro r0;replace r6:=k.ro r6;replace r7:=k.ro r7;replace sk:=sk.trans k (by simp<;>omega);clear k;refine p_a (Za ?_);simp only[pv];clear hok';iterate 4 go_step
    refine rp ?_;refine p_m ?_;simp only[pv];refine p_v _ (ZC .i64 _ _ _ _ rfl 0 0 rfl rfl false rfl) (Za ?_);simp only[pv];iterate 7 go_step
    refine rp ?_;refine p_l r8.r ?_;simp only[pv];refine p_l r6.r ?_;simp only[pv];refine p_c 83 func83 #[.agg (Zc X),.agg (Zc q)] (hc' _) ?_;intro z8002 k;simp only[pv];replace r4:=k.ro r4;replace r0:=k.ro r0;replace r6:=k.ro r6;replace r7:=k.ro r7;replace r8:=k.ro r8;replace sk:=sk.trans k (by simp<;>omega);clear k;refine p_v _ (YV _ _ _ _ rfl (WB X q) 0 rfl rfl false hneg) (Za ?_);simp only[pv];go_wp2
    go_roundg g
    case measure=>omega
    case rel=>exact⟨u2,hu2,hl2,r4,r0,r6,r7,sk⟩
theorem RC (g0:Nat)(v:Option Addr)(P q G:Nat)(r f:Option Addr)(n:Nat)(s:List UInt8)(w:World)(hn:n<=1000)(h0:0<q)(h1:q<2^256)(r0:Row w g0 (tpC true s) 132)(h:UT w v P q G r f):
  Calls prog 153 #[.pointer (some ⟨g0,0,none⟩),.pointer v,.int .i64 n] w fun e w'=> ∃vl,e= .returned (.tuple #[vl,.int .i64 (dwE q s n)])/\Ve w' w.heap.size vl (dwN q s n) (dwf q s)/\Row w' g0 (tpC true (dwT q s n)) 132/\Kept [g0] w w':=by
 have hig:=fun w' (hb:Below w.heap.size w w')=>UM v P q G r f w' h0 h1 (h.below hb)
 have hdr:=fun(x:Nat) (u:List UInt8) w' (hb:Below w.heap.size w w') (hr:Row w' x (tpC true u) 132)=>II x v P q G r f u w' h0 h1 hr (h.below hb)
 obtain⟨ie,hie,hz,hsz,_⟩:=YL
 have hs1: ¬1*ie.size>2^24:=by rw[hsz];decide
 have hs2: ¬1*ie.size=0:=by rw[hsz];decide
 have hl1:=fun A=>Ut A ie.size hsz
 clear h h1 h0;have hlt0:=r0.lt
 go_enter func153,ntmps153
 have sb:=Z9 w;iterate 2 go_step
 refine rp ?_;refine YI (by rfl) (.inr rfl) rfl ?_;refine p_v (.int .i64 0) (fun _=>rfl) (Za ?_);simp only[pv];iterate 4 go_step
 refine rp ?_;refine p_m ?_;simp only[pv];refine p_c 61 func61 #[.pointer (some ⟨g0,0,none⟩)] (Vx g0 true s _ r0) ?_;intro z1001 k;simp only[pv];replace r0:=k.ro r0;replace sb:=kk sb k;clear k;refine p_v _ (Zp _ _ rfl true rfl) ?_;refine p_m ?_;refine p_m ?_;simp only[pv];refine p_c 196 func196 #[.pointer v] (hig _ sb) ?_;intro z1005 k;simp only[pv];replace r0:=k.ro r0;replace sb:=kk sb k;clear k;refine p_v _ (Zp _ _ rfl true rfl) ?_;refine p_k false (.bool false) ?_;refine p_m ?_;refine p_m ?_;simp only[pv];refine p_v _ (Xy (n:Int) 0) ?_;refine p_k false (.bool false) (Za ?_);simp only[pv];iterate 7 go_step
 refine rp ?_;refine p_m ?_;simp only[pv];refine p_v (.pointer (some ⟨g0,0,none⟩)) (Zl _ rfl g0 0 rfl) ?_;simp only[pv];refine Zf (by rfl) 132 _ rfl _ 0 rfl r0.r _ (Zu _) _ underlying132 rfl WK ?_;simp only[pv];refine ZJ (by rfl) 132 rfl _ LE ?_;intro g8 z3003 n0 r8 k;simp only[pv];have d0x8:=l_l r0.lt n0;have b8:=Nat.le_trans sb.size n0;clear n0;replace r0:=k.ro r0;replace sb:=kk sb k;clear k;refine Z0 (by rfl) 132 _ _ rfl _ rfl r8 (tpC true s) rfl (by exact WK) (by rfl) (PY _ _) ?_;clear r8;intro z3004 r8 k;simp only[Act.put];replace r0:=k.ro r0;replace sb:=kk sb k;clear k;refine Za ?_;clear hig;iterate 3 go_step
 refine rp ?_;refine p_v (.slice none 0 0) ((fun _=>rfl)) (Za ?_);simp only[pv];iterate 4 go_step
 refine rp ?_;refine p_m ?_;refine p_v (.int .i64 0) (fun _=>rfl) (Za ?_);simp only[pv]
 go_wp2_with fail
 go_loopg [9,10,11,28] n (fun g s9 s10 s11 s28 wr=> ∃(i:Nat) (u:List UInt8),i+g=n/\s28= .int .i64 i/\Hid (dst q s i=some u)/\Ve wr w.heap.size s9 i (dwf q s)/\s9.ownBlock≠some g8/\Row wr g0 (tpC true s) 132/\Row wr g8 (tpC true u) 132/\Below w.heap.size w wr)
 case atStart=>exact⟨0,s,by omega,rfl,(show dst q s 0=some s from rfl),PC _ _ _,nofun,r0,r8,sb⟩
 case round=>
  clear r0 r8 sb;obtain⟨i,u,hi,rfl,hu,hL,ehLx8,r0,r8,sb⟩:=hrel
  cases gk with
  |zero=>
   obtain rfl:i=n:=by omega
   clear hi hdr
   go_step
   refine rp ?_;refine p_v _ (Xy i i) (Za ?_);simp only[pv];have sk:=Kept.trans (Kept.refl [g0] w) (Kept.ofBelow sb) (by simp);have ehLx0:=hL.low hlt0;clear sb;iterate 8 go_step
   refine rp ?_;refine p_m ?_;simp only[pv];refine Zf (by rfl) 132 _ rfl _ 0 rfl r8.r _ (Zu _) _ underlying132 rfl WK ?_;simp only[pv];refine p_v (.pointer (some ⟨g0,0,none⟩)) (Zl _ rfl g0 0 rfl) ?_;simp only[pv];refine Z0 (by rfl) 132 _ _ rfl _ rfl r0 (tpC true u) rfl (by exact WK) (by rfl) (PY _ _) ?_;clear r0;intro z12003 r0 k;simp only[Act.put];replace r8:=k.ro r8;replace hL:=hL.on k (VL ehLx0);replace sk:=sk.trans k (by simp<;>omega);clear k;refine Za ?_;iterate 3 go_step
   refine rp ?_;refine p_m ?_;refine p_a ?_;refine p_v (.int .i64 0) (fun _=>rfl) (Za ?_);simp only[pv];go_wp2;go_ret2;obtain⟨e1,e2,_,e4,_⟩:=LB hu.out;exact⟨_,by rw[e4];rfl,by rw[e1];exact hL,by rw[e2];exact r0,sk⟩
  |succ g=>
   have hin:i<n:=by omega
   cases hd:drw q u with
   |none=>
    have HD:Hid (dst q s n=none):=Iy hu.out hd hin;have hdr':=fun w' hb hr=>hdr g8 u w' hb hr
    obtain⟨e1,e2,_,e4,_⟩:=QC hd;rw[e1,e2,e4]at hdr';clear e1 e2 e4 hdr hu hd hi
    go_step
    refine rp ?_;refine p_v _ (XK i n) (Za ?_);simp only[pv];clear hin;iterate 10 go_step
    refine rp ?_;refine p_m ?_;simp only[pv];refine p_f 197 func197 #[.pointer (some ⟨g8,0,none⟩),.pointer v] (hdr' _ sb r8) ?_;clear r8;rintro _ z7001 ⟨rfl,r8,k⟩;refine⟨_,rfl,?_⟩;simp only[pv];replace r0:=k.ro r0;replace hL:=hL.on k (VL ehLx8);replace sb:=kk sb k;clear k;refine p_m ?_;refine p_e ?_;refine p_e ?_;simp only[pv];refine ZJ (by rfl) 39 rfl _ Zv ?_;intro g10 z7005 n0 r10 k;simp only[pv];have d0x10:=l_l r0.lt n0;have d8x10:=l_l r8.lt n0;have ehLx10:=hL.new n0;have b10:=Nat.le_trans sb.size n0;clear n0;replace r0:=k.ro r0;replace r8:=k.ro r8;replace hL:=hL.on k (Xo _);replace sb:=kk sb k;clear k;refine p_p r10 0 ?_;clear r10;intro z7006 r10 k;simp only[Act.put];replace r0:=k.ro r0;replace r8:=k.ro r8;replace hL:=hL.on k (VL ehLx10);replace sb:=kk sb k;clear k;refine p_a (Za ?_);simp only[pv];iterate 4 go_step
    refine rp ?_;refine p_m ?_;simp only[pv];refine p_v _ (ZC .i64 _ _ _ _ rfl 5 0 rfl rfl true rfl) (Za ?_);simp only[pv];iterate 4 go_step
    refine rp ?_;refine p_m ?_;simp only[pv];refine p_v (.slice none 0 0) ((fun _=>rfl)) ?_;refine p_a (Za ?_);simp only[pv];go_wp2;go_ret2;obtain⟨e1,e2,_,e4,_⟩:=LA HD.out;exact⟨_,by rw[e4];rfl,by rw[e1];exact PC _ _ _,by rw[e2];exact r0,Kept.trans (Kept.refl [g0] w) (Kept.ofBelow sb) (by simp)⟩
   |some y=>
    obtain⟨x,tl⟩:=y;obtain⟨hnx,hfx⟩:=Ix hu.out hd;have HD:Hid (dst q s (i+1)=some tl):=hnx;have HF:Hid (dwf q s i=x):=hfx;have hdr':=fun w' hb hr=>hdr g8 u w' hb hr
    obtain⟨e1,e2,_,e4,_⟩:=Sa hd;rw[e1,e2,e4]at hdr';clear e1 e2 e4 hdr hu hd hnx hfx
    go_step
    refine rp ?_;refine p_v _ (XK i n) (Za ?_);simp only[pv];iterate 10 go_step
    refine rp ?_;refine p_m ?_;simp only[pv];refine p_f 197 func197 #[.pointer (some ⟨g8,0,none⟩),.pointer v] (hdr' _ sb r8) ?_;clear r8;rintro _ z7001 ⟨rfl,r8,k⟩;refine⟨_,rfl,?_⟩;simp only[pv];replace r0:=k.ro r0;replace hL:=hL.on k (VL ehLx8);replace sb:=kk sb k;clear k;refine p_m ?_;refine p_e ?_;refine p_e ?_;simp only[pv];refine ZJ (by rfl) 39 rfl _ Zv ?_;intro g10 z7005 n0 r10 k;simp only[pv];have d0x10:=l_l r0.lt n0;have d8x10:=l_l r8.lt n0;have ehLx10:=hL.new n0;have b10:=Nat.le_trans sb.size n0;clear n0;replace r0:=k.ro r0;replace r8:=k.ro r8;replace hL:=hL.on k (Xo _);replace sb:=kk sb k;clear k;refine p_p r10 x ?_;clear r10;intro z7006 r10 k;simp only[Act.put];replace r0:=k.ro r0;replace r8:=k.ro r8;replace hL:=hL.on k (VL ehLx10);replace sb:=kk sb k;clear k;refine p_a (Za ?_);simp only[pv];iterate 4 go_step
    refine rp ?_;refine p_m ?_;simp only[pv];refine p_v _ (ZC .i64 _ _ _ _ rfl 0 0 rfl rfl false rfl) (Za ?_);simp only[pv];have hl1':=hl1 x;iterate 6 go_step
    refine rp ?_;refine p_m ?_;simp only[pv];refine p_l r10.r ?_;simp only[pv];refine Xg (by rfl) 54 39 1 _ rfl (Zc x) ie _ underlying54 hie hz hs1 hs2 [(0,.agg (Zc x))] rfl hl1' ?_;intro gX z10002 n0 rX k;simp only[pv];have d0xX:=l_l r0.lt n0;have d8xX:=l_l r8.lt n0;have d10xX:=l_l r10.lt n0;have ehLxX:=hL.new n0;have bX:=Nat.le_trans sb.size n0;clear n0;replace r0:=k.ro r0;replace r8:=k.ro r8;replace r10:=k.ro r10;replace hL:=hL.on k (Xo _);replace sb:=kk sb k;clear k;refine Fz (by rfl) _ _ rfl (w.heap.size) (_) (i) (dwf q s) rfl hL gX _ rfl (by rw[HF.out];exact rX) (by omega) sb.size ?_;have h0:=hL;clear hL;intro v1 z10003 hL k hp;simp only[pv];have cr0:=r0.lt;replace r0:=k.row r0 (by first|exact YX ehLx0|exact YX (h0.low (by omega)));have cr8:=r8.lt;replace r8:=k.row r8 (by first|exact YX ehLx8|exact YX (h0.low (by omega)));have cr10:=r10.lt;replace r10:=k.row r10 (by first|exact YX ehLx10|exact YX (h0.low (by omega)));have crX:=rX.lt;replace rX:=k.row rX (by first|exact YX ehLxX|exact YX (h0.low (by omega)))
    (try replace ehLx0:=Xw hp cr0 ehLx0)
    clear cr0
    (try replace ehLx8:=Xw hp cr8 ehLx8)
    clear cr8
    (try replace ehLx10:=Xw hp cr10 ehLx10)
    clear cr10
    (try replace ehLxX:=Xw hp crX ehLxX)
    clear crX;clear hp;replace sb:=sb.trans (k.below w.heap.size sb.size h0.base);clear h0;clear k;refine p_a (Za ?_);simp only[pv];iterate 2 go_step
    refine rp ?_;refine p_v _ (x_a i 1) ?_;refine p_m (Za ?_);simp only[pv];go_wp2
    go_roundg g
    case measure=>omega
    case rel=>exact⟨i+1,tl,by omega,rfl,HD,hL,ehLx8,r0,r8,sb⟩
end Go.Proofs.YtcdahmommonnfaaGreatDoor
