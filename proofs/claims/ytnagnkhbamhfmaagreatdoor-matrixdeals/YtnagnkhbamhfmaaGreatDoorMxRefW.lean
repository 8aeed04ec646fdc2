import Derived.Test.YtnagnkhbamhfmaaGreatDoorMxRefA
import Derived.Test.YtnagnkhbamhfmaaGreatDoorMxRefD
set_option maxRecDepth 100000
set_option maxHeartbeats 8000000
namespace Go.Proofs.YtnagnkhbamhfmaaGreatDoor
set_option linter.all false
open Go.RowKit
open Go.Proofs.Tryz
theorem Ev: ∃i,prog.info? 22=some i/\i.zero=some (.slice none 0 0)/\i.size=1/\i.bytes=24:=by
 have h:(prog.info? 22).map (fun i=>(i.zero,i.size,i.bytes))=some (some (.slice none 0 0),1,24):=by kernel_rfl
 cases hi:prog.info? 22 with
 |none=>rw[hi]at h;cases h
 |some i=>
  rw[hi]at h;simp only[aS0,aL0,dE0]at h;exact⟨i,rfl,h.1,h.2.1,h.2.2⟩
theorem Ew:(prog.info? 22).map (·.size)=some 1:=by kernel_rfl
theorem IQ {v:Value}{a:Option Addr}{n c:Nat}(h:v= .slice a n c):v.cells=#[v]/\v.oneCell'=true/\(#[v]:Array Value).all (·.oneCell')=true:=by
 subst h;exact⟨rfl,rfl,by simp[Value.oneCell']⟩
theorem yP {v:Value}{a:Option Addr}{n c:Nat}(h:v= .slice a n c)(k:Nat)(hk:k=1):Instr.fill (fun i=>some (i*k,k)) ((Array.range (1*k)).map ((Value.slice none 0 0).cells[· %(Value.slice none 0 0).cells.size]!)) [(0,v)]=some #[v]:=by
 subst h;exact yO a n c k hk
structure DlV (w:World)(base N:Nat)(Y:Nat->Value)(u:Value)(n:Nat)(U:Nat->Nat):Prop where
 own:SB w base u n U
 ap: ∀j,j<N->WR (Y j) u
theorem DlV.on {w w':World}{base N n:Nat}{Y:Nat->Value}{u:Value}{U:Nat->Nat}(h:DlV w base N Y u n U){D:List Nat}(k:Kept D w w')(hD: ∀g∈D,g<base):DlV w' base N Y u n U:=
 ⟨XD h.own k (Uw h.own hD),h.ap⟩
structure DlX (w:World)(base:Nat)(x:Value)(n:Nat)(U:Nat->Nat):Prop where
 own:Wt w base x n U
theorem DlX.on {w w':World}{base n:Nat}{x:Value}{U:Nat->Nat}(h:DlX w base x n U){D:List Nat}(k:Kept D w w')(hD: ∀g∈D,g<base):DlX w' base x n U:=⟨XD h.own k (Uw h.own hD)⟩
theorem DlS.cg {w:World}{base N t m:Nat}{Y S:Nat->Value}{c c2:Nat->Nat}{F V:Nat->Nat->Nat}{v:Value}(h:DlS w base N t Y c F v m S V)(he: ∀j,j<N->c j=c2 j):DlS w base N t Y c2 F v m S V:=
 ⟨fun j hj=>by rw[<-he j hj];exact h.y j hj,h.yy,h.o,h.s,h.os,h.oy,h.ys,h.z⟩
theorem wk (ab ar:Option Addr)(n c m d:Nat)(t:Int)(P Q G:Nat)(w:World)(h:t<1):
  Calls prog 10 #[.agg (smC (P:Nat) (Q:Nat) (G:Nat)),.int .i64 t,.slice ab n c,.slice ar m d] w fun e w'=>e= .returned (.tuple #[.slice none 0 0,.slice none 0 0,.int .i64 1])/\Below w.heap.size w w':=by
 go_enter func10,ntmps10
 iterate 2 go_step
 refine rp ?_;refine ZO (by rfl) 27 _ rfl (smC (P:Nat) (Q:Nat) (G:Nat)) rfl ?_;intro g4 z0 n0 r4 k;simp only[pv];have b4:w.heap.size<=g4:=n0;clear n0;have sb:=k_b k;clear k;refine p_v (.slice none 0 0) ((fun _=>rfl)) ?_;simp only[pv];refine p_v (.slice none 0 0) ((fun _=>rfl)) ?_;refine p_v (.int .i64 0) (fun _=>rfl) (Zb ?_);simp only[pv];iterate 4 go_step
 refine rp ?_;refine p_m ?_;refine p_v _ (X4 t 1) ?_;refine p_m ?_;refine p_s ?_;refine p_s ?_;simp only[pv];refine p_k true (.bool true) ?_;refine p_m ?_;refine p_s ?_;refine p_s ?_;refine p_s ?_;simp only[pv];refine p_k true (.bool true) ?_;refine p_m ?_;refine p_s ?_;refine p_s ?_;refine p_s ?_;simp only[pv];refine p_k true (.bool true) ?_;refine p_m ?_;refine p_s ?_;refine p_s ?_;refine p_s ?_;simp only[pv];refine p_s ?_;refine p_s ?_;refine p_s ?_;refine p_s ?_;refine p_k true (.bool true) ?_;simp only[pv];refine p_m ?_;refine p_s ?_;refine p_s ?_;refine p_s ?_;refine p_s ?_;simp only[pv];refine p_s ?_;refine p_k true (.bool true) ?_;refine p_m ?_;refine p_s ?_;refine p_s ?_;simp only[pv];refine p_s ?_;refine p_s ?_;refine p_s ?_;refine p_k true (.bool true) (Zb ?_);simp only[pv];iterate 4 go_step
 refine rp ?_;refine p_v (.slice none 0 0) ((fun _=>rfl)) ?_;simp only[pv];refine p_v (.slice none 0 0) ((fun _=>rfl)) ?_;refine p_v (.int .i64 1) (fun _=>rfl) (Zb ?_);simp only[pv];go_wp2
 go_ret3
 exact⟨rfl,sb⟩
theorem wm (ab ar:Option Addr)(n c m d:Nat)(t:Int)(P Q G:Nat)(w:World)(h:2<t):
  Calls prog 10 #[.agg (smC (P:Nat) (Q:Nat) (G:Nat)),.int .i64 t,.slice ab n c,.slice ar m d] w fun e w'=>e= .returned (.tuple #[.slice none 0 0,.slice none 0 0,.int .i64 1])/\Below w.heap.size w w':=by
 go_enter func10,ntmps10
 iterate 2 go_step
 refine rp ?_;refine ZO (by rfl) 27 _ rfl (smC (P:Nat) (Q:Nat) (G:Nat)) rfl ?_;intro g4 z0 n0 r4 k;simp only[pv];have b4:w.heap.size<=g4:=n0;clear n0;have sb:=k_b k;clear k;refine p_v (.slice none 0 0) ((fun _=>rfl)) ?_;simp only[pv];refine p_v (.slice none 0 0) ((fun _=>rfl)) ?_;refine p_v (.int .i64 0) (fun _=>rfl) (Zb ?_);simp only[pv];iterate 4 go_step
 refine rp ?_;refine p_m ?_;refine p_v _ (Xe t 1) ?_;refine p_m ?_;refine p_m ?_;refine p_v _ (Gh t 2) ?_;simp only[pv];refine p_k false (.bool true) ?_;refine p_m ?_;refine p_s ?_;refine p_s ?_;refine p_s ?_;simp only[pv];refine p_k true (.bool true) ?_;refine p_m ?_;refine p_s ?_;refine p_s ?_;refine p_s ?_;simp only[pv];refine p_k true (.bool true) ?_;refine p_m ?_;refine p_s ?_;refine p_s ?_;refine p_s ?_;simp only[pv];refine p_s ?_;refine p_s ?_;refine p_s ?_;refine p_s ?_;refine p_k true (.bool true) ?_;simp only[pv];refine p_m ?_;refine p_s ?_;refine p_s ?_;refine p_s ?_;refine p_s ?_;simp only[pv];refine p_s ?_;refine p_k true (.bool true) ?_;refine p_m ?_;refine p_s ?_;refine p_s ?_;simp only[pv];refine p_s ?_;refine p_s ?_;refine p_s ?_;refine p_k true (.bool true) (Zb ?_);simp only[pv];iterate 4 go_step
 refine rp ?_;refine p_v (.slice none 0 0) ((fun _=>rfl)) ?_;simp only[pv];refine p_v (.slice none 0 0) ((fun _=>rfl)) ?_;refine p_v (.int .i64 1) (fun _=>rfl) (Zb ?_);simp only[pv];go_wp2
 go_ret3
 exact⟨rfl,sb⟩
theorem wn (ab ar:Option Addr)(n c m d:Nat)(t:Nat)(P Q G:Nat)(w:World)(h1:1<=t)(h2:t<=2)(hn:n<1):
  Calls prog 10 #[.agg (smC (P:Nat) (Q:Nat) (G:Nat)),.int .i64 (t:Nat),.slice ab n c,.slice ar m d] w fun e w'=>e= .returned (.tuple #[.slice none 0 0,.slice none 0 0,.int .i64 1])/\Below w.heap.size w w':=by
 go_enter func10,ntmps10
 iterate 2 go_step
 refine rp ?_;refine ZO (by rfl) 27 _ rfl (smC (P:Nat) (Q:Nat) (G:Nat)) rfl ?_;intro g4 z0 n0 r4 k;simp only[pv];have b4:w.heap.size<=g4:=n0;clear n0;have sb:=k_b k;clear k;refine p_v (.slice none 0 0) ((fun _=>rfl)) ?_;simp only[pv];refine p_v (.slice none 0 0) ((fun _=>rfl)) ?_;refine p_v (.int .i64 0) (fun _=>rfl) (Zb ?_);simp only[pv];iterate 4 go_step
 refine rp ?_;refine p_m ?_;simp only[pv];refine p_v _ (Xe (t:Nat) 1) ?_;refine p_m ?_;refine p_m ?_;simp only[pv];refine p_v _ (UY (t:Nat) 2) ?_;refine p_k false (.bool false) ?_;refine p_m ?_;refine p_m ?_;simp only[pv];refine p_v _ (n_l ab n c Zm) ?_;simp only[pv];refine p_v _ (X4 (n:Nat) 1) ?_;refine p_k false (.bool true) ?_;refine p_m ?_;refine p_s ?_;refine p_s ?_;simp only[pv];refine p_s ?_;refine p_k true (.bool true) ?_;refine p_m ?_;refine p_s ?_;refine p_s ?_;simp only[pv];refine p_s ?_;refine p_s ?_;refine p_s ?_;refine p_s ?_;refine p_s ?_;simp only[pv];refine p_k true (.bool true) ?_;refine p_m ?_;refine p_s ?_;refine p_s ?_;refine p_s ?_;simp only[pv];refine p_s ?_;refine p_s ?_;refine p_k true (.bool true) ?_;refine p_m ?_;refine p_s ?_;simp only[pv];refine p_s ?_;refine p_s ?_;refine p_s ?_;refine p_s ?_;refine p_k true (.bool true) (Zb ?_);simp only[pv];iterate 4 go_step
 refine rp ?_;refine p_v (.slice none 0 0) ((fun _=>rfl)) ?_;simp only[pv];refine p_v (.slice none 0 0) ((fun _=>rfl)) ?_;refine p_v (.int .i64 1) (fun _=>rfl) (Zb ?_);simp only[pv];go_wp2
 go_ret3
 exact⟨rfl,sb⟩
theorem wo (ab ar:Option Addr)(n c m d:Nat)(t:Nat)(P Q G:Nat)(w:World)(h1:1<=t)(h2:t<=2)(hn1:1<=n)(hn2:n<=25)(hm:m≠t*n):
  Calls prog 10 #[.agg (smC (P:Nat) (Q:Nat) (G:Nat)),.int .i64 (t:Nat),.slice ab n c,.slice ar m d] w fun e w'=>e= .returned (.tuple #[.slice none 0 0,.slice none 0 0,.int .i64 1])/\Below w.heap.size w w':=by
 have htn:t*n<=2*25:=L_ h2 hn2
 go_enter func10,ntmps10
 iterate 2 go_step
 refine rp ?_;refine ZO (by rfl) 27 _ rfl (smC (P:Nat) (Q:Nat) (G:Nat)) rfl ?_;intro g4 z0 n0 r4 k;simp only[pv];have b4:w.heap.size<=g4:=n0;clear n0;have sb:=k_b k;clear k;refine p_v (.slice none 0 0) ((fun _=>rfl)) ?_;simp only[pv];refine p_v (.slice none 0 0) ((fun _=>rfl)) ?_;refine p_v (.int .i64 0) (fun _=>rfl) (Zb ?_);simp only[pv];iterate 4 go_step
 refine rp ?_;refine p_m ?_;simp only[pv];refine p_v _ (Xe (t:Nat) 1) ?_;refine p_m ?_;refine p_m ?_;simp only[pv];refine p_v _ (UY (t:Nat) 2) ?_;refine p_k false (.bool false) ?_;refine p_m ?_;refine p_m ?_;simp only[pv];refine p_v _ (n_l ab n c Zm) ?_;simp only[pv];refine p_v _ (Xe (n:Nat) 1) ?_;refine p_k false (.bool false) ?_;refine p_m ?_;refine p_m ?_;simp only[pv];refine p_v _ (n_l ab n c Zm) ?_;simp only[pv];refine p_v _ (UY (n:Nat) 25) ?_;refine p_k false (.bool false) ?_;refine p_m ?_;refine p_m ?_;simp only[pv];refine p_v _ (n_l ar m d Zm) ?_;refine p_m ?_;refine p_m ?_;simp only[pv];refine p_v _ (n_l ab n c Zm) ?_;simp only[pv];refine p_v _ (Z7 _ _ _ _ rfl t n (t*n) rfl rfl rfl (by omega)) ?_;simp only[pv];refine p_v _ (ZX .i64 _ _ _ _ rfl (m:Nat) (t*n:Nat) rfl rfl true (by rw[e_ (by omega)];rfl)) ?_;refine p_k false (.bool true) ?_;refine p_m ?_;refine p_s ?_;refine p_s ?_;simp only[pv];refine p_s ?_;refine p_s ?_;refine p_s ?_;refine p_k true (.bool true) ?_;refine p_m ?_;simp only[pv];refine p_s ?_;refine p_s ?_;refine p_s ?_;refine p_s ?_;refine p_s ?_;simp only[pv];refine p_k true (.bool true) (Zb ?_);simp only[pv];iterate 4 go_step
 refine rp ?_;refine p_v (.slice none 0 0) ((fun _=>rfl)) ?_;simp only[pv];refine p_v (.slice none 0 0) ((fun _=>rfl)) ?_;refine p_v (.int .i64 1) (fun _=>rfl) (Zb ?_);simp only[pv];go_wp2
 go_ret3
 exact⟨rfl,sb⟩
theorem ws (ab ar:Option Addr)(n c m d:Nat)(t:Nat)(P Q G:Nat)(w:World)(h1:1<=t)(h2:t<=2)(hn1:1<=n)(hn2:n<=25)(hm:m=t*n)(hin1: ∀w',Below w.heap.size w w'->Calls prog 37 #[.slice ab n c,.int .i64 (Q:Nat)] w' (Rt (.bool false) w')):
  Calls prog 10 #[.agg (smC (P:Nat) (Q:Nat) (G:Nat)),.int .i64 (t:Nat),.slice ab n c,.slice ar m d] w fun e w'=>e= .returned (.tuple #[.slice none 0 0,.slice none 0 0,.int .i64 1])/\Below w.heap.size w w':=by
 have htn:t*n<=2*25:=L_ h2 hn2
 go_enter func10,ntmps10
 iterate 2 go_step
 refine rp ?_;refine ZO (by rfl) 27 _ rfl (smC (P:Nat) (Q:Nat) (G:Nat)) rfl ?_;intro g4 z0 n0 r4 k;simp only[pv];have b4:w.heap.size<=g4:=n0;clear n0;have sb:=k_b k;clear k;refine p_v (.slice none 0 0) ((fun _=>rfl)) ?_;simp only[pv];refine p_v (.slice none 0 0) ((fun _=>rfl)) ?_;refine p_v (.int .i64 0) (fun _=>rfl) (Zb ?_);simp only[pv];iterate 4 go_step
 refine rp ?_;refine p_m ?_;simp only[pv];refine p_v _ (Xe (t:Nat) 1) ?_;refine p_m ?_;refine p_m ?_;simp only[pv];refine p_v _ (UY (t:Nat) 2) ?_;refine p_k false (.bool false) ?_;refine p_m ?_;refine p_m ?_;simp only[pv];refine p_v _ (n_l ab n c Zm) ?_;simp only[pv];refine p_v _ (Xe (n:Nat) 1) ?_;refine p_k false (.bool false) ?_;refine p_m ?_;refine p_m ?_;simp only[pv];refine p_v _ (n_l ab n c Zm) ?_;simp only[pv];refine p_v _ (UY (n:Nat) 25) ?_;refine p_k false (.bool false) ?_;refine p_m ?_;refine p_m ?_;simp only[pv];refine p_v _ (n_l ar m d Zm) ?_;refine p_m ?_;refine p_m ?_;simp only[pv];refine p_v _ (n_l ab n c Zm) ?_;simp only[pv];refine p_v _ (Z7 _ _ _ _ rfl t n (t*n) rfl rfl rfl (by omega)) ?_;simp only[pv];refine p_v _ (ZX .i64 _ _ _ _ rfl (m:Nat) (t*n:Nat) rfl rfl false (by rw[d_ (by omega)];rfl)) ?_;refine p_k false (.bool false) ?_;refine p_m ?_;refine p_m ?_;simp only[pv];refine p_v _ (Zh 27 _ 1 rfl g4 0 rfl _ cE0 _ rfl 0 aJ0) ?_;simp only[pv];refine p_d (0+1) r4.r (.int .i64 (Q:Nat)) rfl bG0 ?_;simp only[pv];refine p_c 37 func37 #[.slice ab n c,.int .i64 (Q:Nat)] (hin1 _ sb) ?_;intro z1029 k;simp only[pv];replace r4:=k.ro r4;replace sb:=kk sb k;clear k;refine p_v _ (Zz _ _ rfl false rfl) ?_;refine p_k false (.bool true) ?_;refine p_m ?_;refine p_s ?_;refine p_s ?_;simp only[pv];refine p_s ?_;refine p_s ?_;refine p_s ?_;refine p_k true (.bool true) (Zb ?_);simp only[pv];iterate 4 go_step
 refine rp ?_;refine p_v (.slice none 0 0) ((fun _=>rfl)) ?_;simp only[pv];refine p_v (.slice none 0 0) ((fun _=>rfl)) ?_;refine p_v (.int .i64 1) (fun _=>rfl) (Zb ?_);simp only[pv];go_wp2
 go_ret3
 exact⟨rfl,sb⟩
theorem wt (ab ar:Option Addr)(n c m d:Nat)(t:Nat)(P Q G:Nat)(w:World)(h1:1<=t)(h2:t<=2)(hn1:1<=n)(hn2:n<=25)(hm:m=t*n)(hin1: ∀w',Below w.heap.size w w'->Calls prog 37 #[.slice ab n c,.int .i64 (Q:Nat)] w' (Rt (.bool true) w'))(hin2: ∀w',Below w.heap.size w w'->Calls prog 37 #[.slice ar m d,.int .i64 (Q:Nat)] w' (Rt (.bool false) w')):
  Calls prog 10 #[.agg (smC (P:Nat) (Q:Nat) (G:Nat)),.int .i64 (t:Nat),.slice ab n c,.slice ar m d] w fun e w'=>e= .returned (.tuple #[.slice none 0 0,.slice none 0 0,.int .i64 1])/\Below w.heap.size w w':=by
 have htn:t*n<=2*25:=L_ h2 hn2
 go_enter func10,ntmps10
 iterate 2 go_step
 refine rp ?_;refine ZO (by rfl) 27 _ rfl (smC (P:Nat) (Q:Nat) (G:Nat)) rfl ?_;intro g4 z0 n0 r4 k;simp only[pv];have b4:w.heap.size<=g4:=n0;clear n0;have sb:=k_b k;clear k;refine p_v (.slice none 0 0) ((fun _=>rfl)) ?_;simp only[pv];refine p_v (.slice none 0 0) ((fun _=>rfl)) ?_;refine p_v (.int .i64 0) (fun _=>rfl) (Zb ?_);simp only[pv];iterate 4 go_step
 refine rp ?_;refine p_m ?_;simp only[pv];refine p_v _ (Xe (t:Nat) 1) ?_;refine p_m ?_;refine p_m ?_;simp only[pv];refine p_v _ (UY (t:Nat) 2) ?_;refine p_k false (.bool false) ?_;refine p_m ?_;refine p_m ?_;simp only[pv];refine p_v _ (n_l ab n c Zm) ?_;simp only[pv];refine p_v _ (Xe (n:Nat) 1) ?_;refine p_k false (.bool false) ?_;refine p_m ?_;refine p_m ?_;simp only[pv];refine p_v _ (n_l ab n c Zm) ?_;simp only[pv];refine p_v _ (UY (n:Nat) 25) ?_;refine p_k false (.bool false) ?_;refine p_m ?_;refine p_m ?_;simp only[pv];refine p_v _ (n_l ar m d Zm) ?_;refine p_m ?_;refine p_m ?_;simp only[pv];refine p_v _ (n_l ab n c Zm) ?_;simp only[pv];refine p_v _ (Z7 _ _ _ _ rfl t n (t*n) rfl rfl rfl (by omega)) ?_;simp only[pv];refine p_v _ (ZX .i64 _ _ _ _ rfl (m:Nat) (t*n:Nat) rfl rfl false (by rw[d_ (by omega)];rfl)) ?_;refine p_k false (.bool false) ?_;refine p_m ?_;refine p_m ?_;simp only[pv];refine p_v _ (Zh 27 _ 1 rfl g4 0 rfl _ cE0 _ rfl 0 aJ0) ?_;simp only[pv];refine p_d (0+1) r4.r (.int .i64 (Q:Nat)) rfl bG0 ?_;simp only[pv];refine p_c 37 func37 #[.slice ab n c,.int .i64 (Q:Nat)] (hin1 _ sb) ?_;intro z1029 k;simp only[pv];replace r4:=k.ro r4;replace sb:=kk sb k;clear k;refine p_v _ (Zz _ _ rfl true rfl) ?_;refine p_k false (.bool false) ?_;refine p_m ?_;refine p_m ?_;simp only[pv];refine p_v _ (Zh 27 _ 1 rfl g4 0 rfl _ cE0 _ rfl 0 aJ0) ?_;simp only[pv];refine p_d (0+1) r4.r (.int .i64 (Q:Nat)) rfl bG0 ?_;simp only[pv];refine p_c 37 func37 #[.slice ar m d,.int .i64 (Q:Nat)] (hin2 _ sb) ?_;intro z1036 k;simp only[pv];replace r4:=k.ro r4;replace sb:=kk sb k;clear k;refine p_v _ (Zz _ _ rfl false rfl) ?_;refine p_k false (.bool true) (Zb ?_);simp only[pv];iterate 4 go_step
 refine rp ?_;refine p_v (.slice none 0 0) ((fun _=>rfl)) ?_;simp only[pv];refine p_v (.slice none 0 0) ((fun _=>rfl)) ?_;refine p_v (.int .i64 1) (fun _=>rfl) (Zb ?_);simp only[pv];go_wp2
 go_ret3
 exact⟨rfl,sb⟩
theorem yQ {Q:Nat}[NeZero Q](ab ar:Option Addr)(n c m d t P G:Nat)(F1 F2:Nat->Nat)(gb ob gq oq:Nat)(bcs qcs:Array Value)(tb tq:TypeId)(w:World)(h1:1<=t)(h2:t<=2)(hn1:1<=n)(hn2:n<=25)(hm:m=t*n)(hnc:n<=c)(hmd:m<=d)(qq:FdQ Q)(hP2:2<=P)(hP:P<4611686018427387904)(hQ:Q<4611686018427387904)(hN1:NatsAt w ab n F1 gb ob bcs tb)(hN2:NatsAt w ar m F2 gq oq qcs tq)
  (hin1: ∀w',Below w.heap.size w w'->Calls prog 37 #[.slice ab n c,.int .i64 (Q:Nat)] w' (Rt (.bool true) w'))(hin2: ∀w',Below w.heap.size w w'->Calls prog 37 #[.slice ar m d,.int .i64 (Q:Nat)] w' (Rt (.bool true) w')):
  Calls prog 10 #[.agg (smC (P:Nat) (Q:Nat) (G:Nat)),.int .i64 (t:Nat),.slice ab n c,.slice ar m d] w fun e w'=> ∃vM Y S gT bs,e= .returned (.tuple #[vM,.slice (some ⟨gT,0,none⟩) (3*t+1) (3*t+1),.int .i64 0])/\DlS w' bs (3*t+1) t Y (fun _=>n) (fun a b=>(pev (fi (a+1)) (dlL Q t F1 F2 b)).val) vM n S (fun a b=>G^(pco (dlL Q t F1 F2 a) b).val%P)/\Row w' gT (esC 2 (3*t+1) (fun j=>ptC ((j+1:Nat):Int) (Y j))) 64/\Below w.heap.size w w':=by
 have htn:t*n<=2*25:=L_ h2 hn2;obtain⟨N3,h3t⟩: ∃N3,N3=3*t+1:=⟨_,rfl⟩
 obtain⟨FX,hFX⟩: ∃FX:Nat->Nat->Nat,FX=(fun a b=>(pev (fi (a+1)) (dlL Q t F1 F2 b)).val):=⟨_,rfl⟩
 obtain⟨VX,hVX⟩: ∃VX:Nat->Nat->Nat,VX=(fun a b=>G^(pco (dlL Q t F1 F2 a) b).val%P):=⟨_,rfl⟩
 rw[<-hFX,<-hVX,<-h3t];obtain⟨ie,hie,hz,hsz,hby⟩:=Yn
 have h11: ¬1*ie.size>2^24:=by rw[hsz];decide
 have h12: ¬1*ie.size=0:=by rw[hsz];decide
 have hl1:=fun A=>Vf A ie.size hsz
 obtain⟨is',his,hzs,hszs,hbys⟩:=Ev
 have hs3: ¬1*is'.size>2^24:=by rw[hszs];decide
 have hs4: ¬1*is'.size=0:=by rw[hszs];decide
 obtain⟨ip,hip,hzp,hszp,hbyp⟩: ∃i,prog.info? 64=some i/\i.zero=some (.agg (ptC 0 (.slice none 0 0)))/\i.size=2/\i.bytes=32:=Tl
 have HN1:Hid (NatsAt w ab n F1 gb ob bcs tb):=hN1;have HN2:Hid (NatsAt w ar m F2 gq oq qcs tq):=hN2;have hQ2:Q<4611686018427387904:=hQ;clear hN1 hN2
 go_enter func10,ntmps10
 iterate 2 go_step
 refine rp ?_;refine ZO (by rfl) 27 _ rfl (smC (P:Nat) (Q:Nat) (G:Nat)) rfl ?_;intro g4 z0 n0 r4 k;simp only[pv];have b4:w.heap.size<=g4:=n0;clear n0;have sb:=k_b k;clear k;refine p_v (.slice none 0 0) ((fun _=>rfl)) ?_;simp only[pv];refine p_v (.slice none 0 0) ((fun _=>rfl)) ?_;refine p_v (.int .i64 0) (fun _=>rfl) (Zb ?_);simp only[pv];iterate 4 go_step
 refine rp ?_;refine p_m ?_;simp only[pv];refine p_v _ (Xe (t:Nat) 1) ?_;refine p_m ?_;refine p_m ?_;simp only[pv];refine p_v _ (UY (t:Nat) 2) ?_;refine p_k false (.bool false) ?_;refine p_m ?_;refine p_m ?_;simp only[pv];refine p_v _ (n_l ab n c Zm) ?_;simp only[pv];refine p_v _ (Xe (n:Nat) 1) ?_;refine p_k false (.bool false) ?_;refine p_m ?_;refine p_m ?_;simp only[pv];refine p_v _ (n_l ab n c Zm) ?_;simp only[pv];refine p_v _ (UY (n:Nat) 25) ?_;refine p_k false (.bool false) ?_;refine p_m ?_;refine p_m ?_;simp only[pv];refine p_v _ (n_l ar m d Zm) ?_;refine p_m ?_;refine p_m ?_;simp only[pv];refine p_v _ (n_l ab n c Zm) ?_;simp only[pv];refine p_v _ (Z7 _ _ _ _ rfl t n (t*n) rfl rfl rfl (by omega)) ?_;simp only[pv];refine p_v _ (ZX .i64 _ _ _ _ rfl (m:Nat) (t*n:Nat) rfl rfl false (by rw[d_ (by omega)];rfl)) ?_;refine p_k false (.bool false) ?_;refine p_m ?_;refine p_m ?_;simp only[pv];refine p_v _ (Zh 27 _ 1 rfl g4 0 rfl _ cE0 _ rfl 0 aJ0) ?_;simp only[pv];refine p_d (0+1) r4.r (.int .i64 (Q:Nat)) rfl bG0 ?_;simp only[pv];refine p_c 37 func37 #[.slice ab n c,.int .i64 (Q:Nat)] (hin1 _ sb) ?_;intro z1029 k;simp only[pv];replace r4:=k.ro r4;replace sb:=kk sb k;clear k;refine p_v _ (Zz _ _ rfl true rfl) ?_;refine p_k false (.bool false) ?_;refine p_m ?_;refine p_m ?_;simp only[pv];refine p_v _ (Zh 27 _ 1 rfl g4 0 rfl _ cE0 _ rfl 0 aJ0) ?_;simp only[pv];refine p_d (0+1) r4.r (.int .i64 (Q:Nat)) rfl bG0 ?_;simp only[pv];refine p_c 37 func37 #[.slice ar m d,.int .i64 (Q:Nat)] (hin2 _ sb) ?_;intro z1036 k;simp only[pv];replace r4:=k.ro r4;replace sb:=kk sb k;clear k;refine p_v _ (Zz _ _ rfl true rfl) ?_;refine p_k false (.bool false) (Zb ?_);simp only[pv];clear hin1 hin2;iterate 7 go_step
 refine rp ?_;refine p_v (.slice none 0 0) ((fun _=>rfl)) (Zb ?_);simp only[pv];iterate 3 go_step
 refine rp ?_;refine p_m ?_;simp only[pv];refine p_v _ (Z7 _ _ _ _ rfl 3 t (3*t) rfl rfl rfl (by omega)) ?_;simp only[pv];refine p_v _ (x_a (3*t) 1) ?_;simp only[pv];refine XT (by rfl) 32 64 _ _ rfl ip _ aZ0 hip hzp (3*t+1) rfl rfl (by rw[hszp];omega) (by rw[hbyp];omega) (by omega) ?_;intro gT z4003 n0 rT k;simp only[pv];have d4xT:=l_l r4.lt n0;have bT:=f_ sb.size n0;clear n0;replace r4:=k.ro r4;replace sb:=kk sb k;clear k;refine p_a (Zb ?_);simp only[pv];rw[hszp,NI (k:=2) _ rfl]at rT;iterate 4 go_step
 refine rp ?_;refine p_v (.int .i64 0) (fun _=>rfl) (Zb ?_);simp only[pv];have hN7:N3<=7:=by omega
 rw[<-h3t]at rT;rw[<-h3t]
 have hFl: ∀a b,FX a b<Q:=fun a b=>by rw[hFX];exact(pev _ _).isLt
 have cTz:gT<z4003.heap.size:=rT.lt;have c4z:g4<z4003.heap.size:=r4.lt;have hwz:w.heap.size<=z4003.heap.size:=sb.size
 go_wp2_with fail
 go_loopg [11,13,14,15] n (fun x s11 s13 s14 s15 wr=> ∃(i:Nat) (Y S:Nat->Value) (I:Nat->Int),i+x=n/\s13= .int .i64 i/\(0<i-> ∀j,j<N3->I j=((j+1:Nat):Int))/\DlS wr z4003.heap.size N3 t Y (fun _=>i) FX s11 i S VX/\Row wr g4 (smC (P:Nat) (Q:Nat) (G:Nat)) 27/\Row wr gT (esC 2 N3 (fun j=>ptC (I j) (Y j))) 64/\Below w.heap.size w wr)
 case atStart=>exact⟨0,fun _=>.slice none 0 0,fun _=>.slice none 0 0,fun _=>0,by omega,rfl,fun h=>absurd h (by omega),AE _ _ _ _ _ _ _ (c_ _),r4,rT,sb⟩
 case round=>
  clear r4 rT sb;obtain⟨i,Y,S,I,hi,rfl,hI,hD,r4,rT,sb⟩:=hrel
  cases gk with
  |zero=>
   obtain rfl:i=n:=by omega
   rw[Vl (D:=(fun j=>ptC ((j+1:Nat):Int) (Y j))) (fun j hj=>by show ptC _ _=ptC _ _;rw[hI (by omega) j hj])]at rT;iterate 2 go_step
   refine rp ?_;refine p_m ?_;refine p_m ?_;simp only[pv];refine p_v _ (n_l ab i c Zm) ?_;refine p_v _ (Xe i i) (Zb ?_);simp only[pv];iterate 7 go_step
   refine rp ?_;refine p_m ?_;refine p_m ?_;refine p_a ?_;refine p_a ?_;refine p_v (.int .i64 0) (fun _=>rfl) (Zb ?_);simp only[pv];go_wp2
   go_ret3
   first|exact⟨u11,Y,S,gT,z4003.heap.size,rfl,hD,rT,sb⟩|skip
  |succ x=>
   have hlt:i<n:=by omega
   have htk:t*i+t<=t*n:=by rw[<-Nat.mul_succ];exact R_ _ hlt
   iterate 2 go_step
   refine rp ?_;refine p_m ?_;refine p_m ?_;simp only[pv];refine p_v _ (n_l ab n c Zm) ?_;refine p_v _ (X4 i n) (Zb ?_);simp only[pv];have kk:=YG wr;obtain h0|⟨rfl,rB,hbt⟩:=(HN1.out.below sb).at'
   ·exact absurd h0 (by omega)
   have hbi:=hbt i hlt;clear hbt;have hm2:NatsAt wr ar m F2 gq oq qcs tq:=HN2.out.below sb;obtain h0|⟨rfl,_,_⟩:=hm2.at'
   ·exact absurd h0 (by omega)
   iterate 9 go_step
   refine XQ (by kernel_rfl) (fun x=>Kept [] wr x) (fun _ _ h1 h2=>h1.trans (Kept.ofBelow h2) (by simp)) (Kept.refl _ _) [] (.leaf [(0,false),(1,false),(2,false),(3,false),(5,false),(6,false),(7,false),(8,false),(9,false),(10,false),(11,false),(12,false),(13,false),(14,false),(16,false),(17,false),(4,true),(15,true),(18,true),(19,false)]) ?_ (by kernel_rfl);show EW _ _ _ _ _ _ _ _
   refine e_m ?_;refine e_m ?_;simp only[pv];refine e_v (.pointer (some ⟨gb,ob+i*4,none⟩)) (Zw 22 _ _ rfl gb ob n c rfl i rfl hlt _ r_ 4 ZC) ?_;simp only[pv];refine Wm (by rfl) 57 _ rfl _ (ob+i*4) rfl (fun _ hk=>hk.rowR rB (by simp)) (Zc (F1 i)) hbi _ b_ rfl Zd ?_;refine e_m ?_;refine e_m ?_;refine e_m ?_;simp only[pv];refine e_v (.int .i64 ((t*i:Nat):Int)) (Z7 _ _ _ _ rfl t i (t*i) rfl rfl rfl (by omega)) ?_;refine e_m ?_;refine e_m ?_;simp only[pv];refine e_v (.int .i64 ((t*i:Nat):Int)) (Z7 _ _ _ _ rfl t i (t*i) rfl rfl rfl (by omega)) ?_;refine e_m ?_;simp only[pv];refine e_v (.int .i64 ((t*i+t:Nat):Int)) (x_a (t*i) t) ?_;simp only[pv];refine e_v (.slice (some ⟨gq,oq+t*i*4,none⟩) t (d-t*i)) (fun w'=>(JO _ _ _ _ rfl Zm 4 Vy gq oq m d (t*i) (t*i+t) rfl rfl rfl (by omega) (by omega) (by omega) w').trans (by rw[aN0])) ?_;simp only[pv];refine e_v (.pointer (some ⟨g4,0+1,none⟩)) (Zh 27 _ 1 rfl g4 0 rfl _ cE0 _ rfl 0 aJ0) ?_;simp only[pv];refine Y9 (by rfl) 3 _ rfl _ (0+1) rfl (fun _ hk=>(hk.row r4 (by simp)).r) (.int .i64 (Q:Nat)) rfl bG0 ?_;simp only[pv];refine Wq (by rfl) 22 57 1 _ rfl (Zc (F1 i)) ie _ r_ hie hz h11 h12 [(0,.agg (Zc (F1 i)))] rfl (hl1 _) ?_;intro wa4 hqb gN wb4 n0 rN hb;replace kk:=b_o kk hqb;have n1:wr.heap.size<=gN:=f_ kk.size n0;replace kk:=b_o kk hb;have hX:Wt wb4 wr.heap.size (.slice (some ⟨gN,0,none⟩) 1 1) 1 (dlF t F1 F2 i):=Et rN n1;refine⟨fun _=>Kept.ofBelow kk,?_⟩;simp only[pv];clear hqb hb n0 rN
   refine Es (by rfl) _ _ rfl wr.heap.size (.slice (some ⟨gN,0,none⟩) 1 1) 1 (dlF t F1 F2 i) rfl hX gq (oq+t*i*4) t (d-t*i) rfl (R9 (hm2.below kk) (lo:=t*i) (m:=t) (by omega) (fun l hl=>by
    show dlF t F1 F2 i (1+l)=_
    unfold dlF
    rw[i_ (by omega),show 1+l-1=l by omega])) (by omega) (by omega) kk.size ?_
   intro wa15 hqb vA wb15 hV kp;replace kk:=b_o kk hqb;replace kk:=kk.trans (kp.below wr.heap.size kk.size (Vx hX));refine⟨fun _=>Kept.ofBelow kk,?_⟩;rw[bM0 1 t]at hV;obtain⟨aA,cA,rfl⟩:=We hV;simp only[pv];clear hqb kp hX;refine XM (by rfl) 38 _ _ rfl func38 (by kernel_rfl) #[.slice aA (t+1) cA,.int .i64 (Q:Nat)] rfl (fun w2 hqb=>?_)
   obtain⟨_,gX,cX,hNX⟩:=Uq hV (fun l hl=>by
    show dlF t F1 F2 i l<_
    unfold dlF
    split
    ·exact HN1.out.lt i hlt
    ·exact HN2.out.lt _ (by omega))
   replace kk:=b_o kk hqb;have hkz:=kk.size;refine(Fq aA (t+1) cA Q (dlF t F1 F2 i) gX 0 cX 57 w2 (by omega) qq.pos hQ2 (hNX.below hqb)).mono ?_;rintro e w3 ⟨vf,rfl,hF,hb⟩;replace kk:=b_o kk hb;refine⟨vf,rfl,fun _=>Kept.ofBelow kk,?_⟩;simp only[pv];clear hqb hb hV hNX;refine Ot (by rfl) rfl rfl ?_;simp only[pv];refine Vk ?_;intro wq hqb;replace hF:=own_below hF hqb;replace kk:=b_o kk hqb;clear hqb rB hbi;have hvF:WR u11 vf:=Uv hD.o hF hkz;have hV:DlV wq z4003.heap.size N3 Y vf (t+1) (fun l=>dlF t F1 F2 i l%Q):=⟨Md hF (f_ hD.z hkz),fun j hj=>Uv (hD.y j hj) hF hkz⟩;clear hF hkz;replace r4:=r4.belowAll kk;replace rT:=rT.belowAll kk;replace hD:=hD.below kk;replace hm2:=hm2.below kk;replace sb:=b_o sb kk;clear kk
   have hil: ∀w',SB w' z4003.heap.size vf (t+1) (fun l=>dlF t F1 F2 i l%Q)->BG w' vf (dlL Q t F1 F2 i):=fun w' h=>Fp h (by unfold dlL;rw[Y3]) (fun l hl=>by
    unfold dlL;rw[UJ _ _ _ hl]
    rfl)
   have hll:(dlL Q t F1 F2 i).length<=1000:=by unfold dlL;rw[Y3];omega
   have hto: ∀w',DlS w' z4003.heap.size N3 t Y (fun _=>i) FX u11 i S VX->DlV w' z4003.heap.size N3 Y vf (t+1) (fun l=>dlF t F1 F2 i l%Q)->z4003.heap.size<=w'.heap.size->Calls prog 39 #[.agg (smC (P:Nat) (Q:Nat) (G:Nat)),vf,.int .i64 ((t+1:Nat):Int)] w' fun e w2=> ∃x a cx,x= .slice a (t+1) cx/\e= .returned x/\DlX w2 z4003.heap.size x (t+1) (VX i)/\(∀j,j<N3->WR (Y j) x)/\WR u11 x/\Below w'.heap.size w' w2:=fun w' h1 h2' h3=>by
    refine(IM vf (dlL Q t F1 F2 i) (t+1) P G w' (by omega) hll hP2 hP hQ2 (hil w' h2'.own)).mono ?_;rintro e w2 ⟨x,rfl,hx,hb⟩;obtain⟨a,cx,e2⟩:=We hx;exact⟨x,a,cx,e2,rfl,⟨by rw[hVX];exact Md hx h3⟩,fun j hj=>Uv (h1.y j hj) hx (c_ _),Uv h1.o hx (c_ _),hb⟩
   iterate 3 go_step
   refine rp ?_;refine p_m ?_;simp only[pv];refine ZJ (by rfl) 27 _ rfl _ 0 rfl r4.r _ (Yi _) _ cE0 rfl Ws ?_;refine p_m ?_;refine p_m ?_;simp only[pv];refine p_v _ (x_a t 1) ?_;simp only[pv];refine p_f 39 func39 #[.agg (smC (P:Nat) (Q:Nat) (G:Nat)),vf,.int .i64 ((t+1:Nat):Int)] (hto _ hD hV hD.z) ?_;rintro _ z9005 ⟨vX,aX,cX,eX,rfl,hX,hax,hvx,hb⟩;refine⟨_,rfl,?_⟩;simp only[pv];have k:=Kept.ofBelow hb;clear hb;replace r4:=k.ro r4;replace rT:=k.ro rT;replace hD:=hD.on k (by simp<;>omega);replace hV:=hV.on k (by simp<;>omega);replace sb:=kk sb k;clear k;refine Wb (by rfl) 31 22 1 _ rfl #[vX] is' _ bH0 his hzs hs3 hs4 [(0,vX)] rfl (yP eX is'.size hszs) ?_;intro gZ z9006 n0 rZ k;simp only[pv];have d4xZ:=l_l r4.lt n0;have dTxZ:=l_l rT.lt n0
   (try have bhDxZ:=f_ hD.le n0)
   (try have bhVxZ:=f_ hV.le n0)
   (try have bhXxZ:=f_ hX.le n0)
   have bZ:=f_ sb.size n0;clear n0;replace r4:=k.ro r4;replace rT:=k.ro rT;replace hD:=hD.on k (by simp<;>omega);replace hV:=hV.on k (by simp<;>omega);replace hX:=hX.on k (by simp<;>omega);replace sb:=kk sb k;clear k;have hOc:=AD (D:=fun j=>#[upS S i vX j]) hD.o (fun j hj=>by show #[_]=#[_];rw[Px S hj]);refine JR (by rfl) _ _ (31) rfl (z4003.heap.size) 22 is' _ 1 24 bH0 his hzs hszs hbys rfl (by decide) (by decide) (_) (i) ((fun j=>#[upS S i vX j])) ((fun _=>rfl)) rfl hOc gZ _ rfl (by show Row _ gZ #[upS S i vX i] _;rw[Rd];exact rZ) ((by show(#[upS S i vX i]:Array Value).all _=true;rw[Rd];exact(IQ eX).2.2)) ((by omega)) hD.z ?_;intro v1 z9007 hO k hp;simp only[pv];have hD2:=hD.addS hX.own hax hvx hO k hp;have n4x:=Wr (VY hD.o c4z);have nTx:=Wr (VY hD.o cTz);replace r4:=k.row r4 n4x;replace rT:=k.row rT nTx;replace hV:DlV _ _ _ _ _ _ _:=⟨XD hV.own k (XC hvF),hV.ap⟩;replace sb:=sb.trans (k.below w.heap.size sb.size (fun g hg=>f_ hwz (Vx hD.o g hg)));clear hOc hO hp k n4x nTx hX hax hvx;replace hD:=hD2;clear hD2;refine p_a (Zb ?_);simp only[pv];iterate 3 go_step
   refine rp ?_;refine p_v (.int .i64 0) (fun _=>rfl) (Zb ?_);simp only[pv];have hDc:=hD.cg (c2:=fun j=>if j<0 then i+1 else i) (fun j _=>(i_ (by omega)).symm);replace hD:=hDc;clear hDc hto;generalize upS S i vX=S2 at*;have H3t:Hid (N3=3*t+1):=h3t;have HMM:Hid (m=t*n):=hm;clear h3t hm
   go_wp2_with fail
   go_loopg [15] N3 (fun y s15 wr=> ∃(k:Nat) (Y:Nat->Value) (I:Nat->Int),k+y=N3/\s15= .int .i64 k/\(∀j,j<N3->(0<i∨j<k)->I j=((j+1:Nat):Int))/\DlS wr z4003.heap.size N3 t Y (fun j=>if j<k then i+1 else i) FX v1 (i+1) S2 VX/\DlV wr z4003.heap.size N3 Y vf (t+1) (fun l=>dlF t F1 F2 i l%Q)/\Row wr g4 (smC (P:Nat) (Q:Nat) (G:Nat)) 27/\Row wr gT (esC 2 N3 (fun j=>ptC (I j) (Y j))) 64/\Below w.heap.size w wr)
   case atStart=>exact⟨0,Y,I,by omega,rfl,fun j hj h=>hI (by omega) j hj,hD,hV,r4,rT,sb⟩
   case round=>
    clear hD hV r4 rT sb hI hm2 hvF;clear Y I;obtain⟨k,Y,I,hk,rfl,hI,hD,hV,r4,rT,sb⟩:=hrel
    cases gk with
    |zero=>
     obtain rfl:k=N3:=by omega
     iterate 2 go_step
     refine rp ?_;refine p_m ?_;refine p_m ?_;simp only[pv];refine p_v _ (n_l (some ⟨gT,0,none⟩) k k XR) ?_;refine p_v _ (Xe k k) (Zb ?_);simp only[pv];iterate 6 go_step
     refine rp ?_;refine p_m ?_;simp only[pv];refine p_v _ (x_a i 1) ?_;refine p_a (Zb ?_);simp only[pv];go_wp2
     go_roundg x
     case measure=>omega
     case rel=>exact⟨i+1,Y,S2,I,by omega,rfl,fun _ j hj=>hI j hj (.inr hj),hD.cg (fun j hj=>j_ hj),r4,rT,sb⟩
    |succ y=>
     have hlk:k<N3:=by omega
     obtain⟨I2,hI2⟩: ∃I2:Nat->Int,I2=(fun j=>if j=k then((k+1:Nat):Int)else I j):=⟨_,rfl⟩
     have hset:(esC 2 N3 (fun j=>ptC (I j) (Y j))).setIfInBounds (0+k*2) (.int .i64 ((k+1:Nat):Int))=esC 2 N3 (fun j=>ptC (I2 j) (Y j)):=IN (fun _=>rfl) (fun _=>rfl) k hlk 0 (by omega) _ _ (by omega) (by rw[hI2];show(ptC (if k=k then _ else _) _)[0]?=_;rw[j_ rfl];rfl) (fun l hl hl0=>by
      obtain rfl:l=1:=by omega
      rfl) (fun l hl hne=>by rw[hI2];show ptC (if l=k then _ else _) _=_;rw[i_ hne])
     have hI3: ∀j,j<N3->(0<i∨j<k+1)->I2 j=((j+1:Nat):Int):=fun j hj h=>by
      rw[hI2];show(if j=k then _ else _)=_
      by_cases e:j=k
      ·rw[j_ e,e]
      ·rw[i_ e];exact hI j hj (by omega)
     clear hI hI2;iterate 2 go_step
     refine rp ?_;refine p_m ?_;refine p_m ?_;simp only[pv];refine p_v _ (n_l (some ⟨gT,0,none⟩) N3 N3 XR) ?_;refine p_v _ (X4 k N3) (Zb ?_);simp only[pv];iterate 9 go_step
     refine rp ?_;refine p_m ?_;refine p_m ?_;refine p_m ?_;simp only[pv];refine p_v _ (x_a k 1) ?_;simp only[pv];refine p_x k hlk aZ0 eD0 ?_;simp only[pv];refine p_v _ (Zh 64 _ 0 rfl gT (0+k*2) rfl _ aG0 _ rfl 0 aJ0) ?_;simp only[pv];refine Xx (by rfl) 3 _ _ rfl _ (0+k*2) rfl rT (.int .i64 ((k+1:Nat):Int)) rfl rfl rfl Vg (by rw[YM];omega) ((esC 2 N3 (fun j=>ptC (I2 j) (Y j)))) hset ?_;clear rT;intro z13006 rT k;simp only[Act.put];replace r4:=k.ro r4;replace hD:=hD.on k (by simp<;>omega);replace hV:=hV.on k (by simp<;>omega);replace sb:=kk sb k;clear k;refine Zb ?_;clear hset
     have hYk:Wt z13006 z4003.heap.size (Y k) i (FX k):=by
      have:=hD.y k hlk;simp only[dB0,if_false]at this;exact this
     have kb:=YG z13006;have nT:gT∉(Y k).ownBlock.toList:=Wr (VY hYk cTz);have n4:g4∉(Y k).ownBlock.toList:=Wr (VY hYk c4z)
     have hev: ∀w',Kept (Y k).ownBlock.toList z13006 w'->Calls prog 41 #[vf,.int .i64 ((k+1:Nat):Int),.int .i64 (Q:Nat)] w' (Rt (.int .i64 (FX k i:Nat)) w'):=fun w' hk=>by
      rw[hFX];exact wY vf (dlL Q t F1 F2 i) (k+1) w' (by omega) qq hQ2 (hil w' (XD hV.own hk (XC (hV.ap k hlk))))
     have hit:=fun w'=>Vp ((FX k i:Nat):Int) w' (by have:=hFl k i;omega)
     simp only[q_]at hit
     have hcY:(esC 2 N3 (fun j=>ptC (I2 j) (Y j)))[0+k*2+1]?=some (Y k):=by
      rw[show 0+k*2+1=k*2+1 by omega,UK (C:=fun j=>ptC (I2 j) (Y j)) (fun _=>rfl) k 1 hlk (by omega)];rfl
     iterate 2 go_step
     refine XQ (by kernel_rfl) (fun x=>Kept (Y k).ownBlock.toList z13006 x) (fun _ _ h1 h2=>h1.trans (Kept.ofBelow h2) (by simp)) (Kept.refl _ _) [18] (.leaf [(0,false),(1,false),(2,false),(3,false),(4,false),(5,false),(6,false),(7,false),(8,false),(9,false),(10,false),(11,false),(12,false),(13,false),(16,false),(17,false),(14,true),(15,true),(18,true)]) ?_ (by kernel_rfl);show EW _ _ _ _ _ _ _ _
     refine e_m ?_;refine e_m ?_;refine e_m ?_;refine e_m ?_;simp only[pv];refine e_v (.pointer (some ⟨gT,0+k*2,none⟩)) (Zw 32 _ _ rfl (gT) (0) (N3) (N3) rfl (k) rfl (hlk) _ aZ0 2 eD0) ?_;simp only[pv];refine e_v (.pointer (some ⟨gT,0+k*2+1,none⟩)) (Zh 64 _ 1 rfl gT (0+k*2) rfl _ aG0 _ rfl 0 aO0) ?_;simp only[pv];refine Y9 (by rfl) 22 _ rfl _ (0+k*2+1) rfl (fun _ hk=>(hk.row rT nT).r) (Y k) hcY aD0 ?_;refine e_m ?_;refine e_m ?_;simp only[pv];refine e_v (.int .i64 ((k+1:Nat):Int)) (x_a k 1) ?_;simp only[pv];refine e_v (.pointer (some ⟨g4,0+1,none⟩)) (Zh 27 _ 1 rfl g4 0 rfl _ cE0 _ rfl 0 aJ0) ?_;simp only[pv];refine Y9 (by rfl) 3 _ rfl _ (0+1) rfl (fun _ hk=>(hk.row r4 n4).r) (.int .i64 (Q:Nat)) rfl bG0 ?_;simp only[pv];refine YS (by rfl) 41 _ _ rfl func41 (by kernel_rfl) #[vf,.int .i64 ((k+1:Nat):Int),.int .i64 (Q:Nat)] rfl _ (fun w' hk=>hev w' hk) ?_;simp only[pv];refine YS (by rfl) 40 _ _ rfl iQ0 (by kernel_rfl) #[.int .i64 (FX k i:Nat)] rfl _ (fun w' _=>hit w') ?_;simp only[pv];refine e_v (.pointer (some ⟨gT,0+k*2,none⟩)) (Zw 32 _ _ rfl (gT) (0) (N3) (N3) rfl (k) rfl (hlk) _ aZ0 2 eD0) ?_;simp only[pv];refine e_v (.pointer (some ⟨gT,0+k*2+1,none⟩)) (Zh 64 _ 1 rfl gT (0+k*2) rfl _ aG0 _ rfl 0 aO0) ?_;simp only[pv];refine Wq (by rfl) 22 57 1 _ rfl (Zc (FX k i)) ie _ r_ hie hz h11 h12 [(0,.agg (Zc (FX k i)))] rfl (hl1 _) ?_;intro wa14 hqb gL wb14 n0 rL hb;replace kb:=Zk (Zk kb (c_ _) hqb) (c_ _) hb;replace hYk:=own_below (own_below hYk hqb) hb;refine⟨fun _=>(Kept.refl (Y k).ownBlock.toList z13006).trans (Kept.ofBelow kb) (by simp),?_⟩;simp only[pv];clear hqb hb n0;refine OD (by rfl) _ _ 22 rfl z4003.heap.size 57 ie _ 4 32 r_ hie hz hsz hby rfl (by decide) (Y k) i _ rfl hYk gL 1 rfl rL (Zo _) (Zu _) (by unfold maxLen;omega) (by omega) (f_ hD.z kb.size) ?_;intro wa15 hqb v2 wb15 hN1 kp hp;replace kb:=b_o kb hqb
     have hOn:Wt wb15 z4003.heap.size v2 (i+1) (FX k):=by
      have:=hN1;rw[WQ]at this;exact this
     have hD2:=(hD.below kb).addY hlk (x:=v2) (by show Wt _ _ _ ((if k<k then i+1 else i)+1) _;rw[i_ (dB0 k)];exact hOn) kp hp (fun j=>if j<k+1 then i+1 else i) (by show(if k<k+1 then _ else _)=(if k<k then _ else _)+1;rw[j_ (by omega),i_ (by omega)]) (fun j hj hne=>by
      show(if j<k+1 then _ else _)=(if j<k then _ else _)
      by_cases e:j<k
      ·rw[j_ e,j_ (by omega)]
      ·rw[i_ e,i_ (by omega)])
     have hV2:DlV wb15 z4003.heap.size N3 (fun j=>if j=k then v2 else Y j) vf (t+1) (fun l=>dlF t F1 F2 i l%Q):=⟨XD (own_below hV.own kb) kp (XC (hV.ap k hlk)),fun j hj=>by
      show WR (if j=k then v2 else Y j) vf
      by_cases e:j=k
      ·rw[j_ e];exact(WS (hV.ap k hlk).symm (own_below hV.own kb) hp).symm
      ·rw[i_ e];exact hV.ap j hj⟩
     have r42:=kp.row (r4.belowAll kb) n4;have rT2:=kp.row (rT.belowAll kb) nT;have sd2:=(Zk sb (c_ _) kb).trans (kp.below w.heap.size (Zk sb (c_ _) kb).size (fun g hg=>f_ hwz (Vx hYk g hg)));obtain⟨a2,c2,e2⟩:=We hOn;refine⟨fun _=>((Kept.refl (Y k).ownBlock.toList z13006).trans (Kept.ofBelow kb) (by simp)).trans kp (fun g hg=>.inl hg),?_⟩;simp only[pv];clear hqb kp hp hN1 hOn rL hYk hit;obtain⟨Y2,hY2⟩: ∃Y2:Nat->Value,Y2=(fun j=>if j=k then v2 else Y j):=⟨_,rfl⟩
     rw[<-hY2]at hD2 hV2
     have hset2:(esC 2 N3 (fun j=>ptC (I2 j) (Y j))).setIfInBounds (0+k*2+1) v2=esC 2 N3 (fun j=>ptC (I2 j) (Y2 j)):=IN (fun _=>rfl) (fun _=>rfl) k hlk 1 (by omega) _ _ (by omega) (by rw[hY2];show(ptC _ (if k=k then _ else _))[1]?=_;rw[j_ rfl];rfl) (fun l hl hl0=>by
      obtain rfl:l=0:=by omega
      rfl) (fun l hl hne=>by rw[hY2];show ptC _ (if l=k then _ else _)=_;rw[i_ hne])
     refine T3 (by rfl) 22 _ _ rfl gT (0+k*2+1) rfl rT2 v2 rfl (IQ e2).1 (IQ e2).2.1 Ew (by rw[YM];omega) (esC 2 N3 (fun j=>ptC (I2 j) (Y2 j))) hset2 ?_;intro wa18 hqb wb18 rT3 k18;refine⟨fun h=>(by cases h),?_⟩;simp only[Act.put];have hD3:=(hD2.below hqb).on k18 (by simp<;>omega);have hV3:=(hV2.on (Kept.ofBelow hqb) (by simp)).on k18 (by simp<;>omega);have r43:=k18.row (r42.belowAll hqb) (by simp<;>omega);have sd3:=(Zk sd2 (c_ _) hqb).trans (k18.below w.heap.size (Zk sd2 (c_ _) hqb).size (by simp<;>omega));refine Vk ?_;intro wq2 hqb2;replace hD3:=hD3.below hqb2;replace hV3:=hV3.on (Kept.ofBelow hqb2) (by simp);replace r43:=r43.belowAll hqb2;replace rT3:=rT3.belowAll hqb2;replace sd3:=b_o sd3 hqb2;clear hD hV r4 rT sb hD2 hV2 r42 rT2 sd2 hqb hqb2 k18 kb hev hset2 hcY hY2;iterate 2 go_step
     refine rp ?_;refine p_m ?_;simp only[pv];refine p_v _ (x_a k 1) ?_;refine p_a (Zb ?_);simp only[pv];go_wp2
     go_roundg y
     case measure=>omega
     case rel=>exact⟨k+1,Y2,I2,by omega,rfl,hI3,hD3,hV3,r43,rT3,sd3⟩
end Go.Proofs.YtnagnkhbamhfmaaGreatDoor
