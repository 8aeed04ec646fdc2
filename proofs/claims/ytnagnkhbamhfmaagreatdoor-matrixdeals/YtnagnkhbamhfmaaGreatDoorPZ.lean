import Derived.Test.YtnagnkhbamhfmaaGreatDoorPY
set_option maxRecDepth 100000
set_option maxHeartbeats 8000000
namespace Go.Proofs.YtnagnkhbamhfmaaGreatDoor
set_option linter.all false
open Go.RowKit
open Go.Proofs.Tryz
theorem Us (n ca ce:Nat)(ab ae:Option Addr)(a':Nat->Nat)(gb ob ge oe:Nat)(bcs ecs:Array Value)(tb te:TypeId)(w:World)(hn:n<9223372036854775808)(hna:NatsAt w ab n a' gb ob bcs tb)(hnb:NatsAt w ae n a' ge oe ecs te):
  Calls prog 17 #[.slice ab n ca,.slice ae n ce] w fun e w'=>e= .returned (.bool true)/\Below w.heap.size w w':=by
 have HB:Hid (NatsAt w ab n a' gb ob bcs tb):=hna;have HE:Hid (NatsAt w ae n a' ge oe ecs te):=hnb;clear hna hnb
 go_enter func17,ntmps17
 have sb:=YG w;iterate 2 go_step
 refine rp ?_;refine p_v (.bool false) (fun _=>rfl) (Zb ?_);simp only[pv];iterate 4 go_step
 refine rp ?_;refine p_m ?_;simp only[pv];refine p_v _ (n_l ab n ca Zm) ?_;refine p_m ?_;simp only[pv];refine p_v _ (n_l ae n ce Zm) ?_;simp only[pv];refine p_v _ (ZX .i64 _ _ _ _ rfl n n rfl rfl false (by rw[d_ rfl];rfl)) (Zb ?_);simp only[pv];iterate 8 go_step
 refine rp ?_;refine p_v (.int .i64 0) (fun _=>rfl) (Zb ?_);simp only[pv]
 go_wp2_with fail
 go_loopg [5] n (fun g s5 wr=> ∃i:Nat,i+g=n/\s5= .int .i64 i/\Below w.heap.size w wr)
 case atStart=>exact⟨0,by omega,rfl,sb⟩
 case round=>
  clear sb;obtain⟨i,hi,rfl,sb⟩:=hrel
  cases gk with
  |zero=>
   obtain rfl:i=n:=by omega
   clear hi;iterate 2 go_step
   refine rp ?_;refine p_m ?_;refine p_m ?_;simp only[pv];refine p_v _ (n_l ab i ca Zm) ?_;refine p_v _ (Xe i i) (Zb ?_);simp only[pv];iterate 7 go_step
   refine rp ?_;refine p_v (.bool true) (fun _=>rfl) (Zb ?_);simp only[pv];go_wp2;go_ret;exact⟨rfl,sb⟩
  |succ g=>
   have hlt:i<n:=by omega
   iterate 2 go_step
   refine rp ?_;refine p_m ?_;refine p_m ?_;simp only[pv];refine p_v _ (n_l ab n ca Zm) ?_;refine p_v _ (X4 i n) (Zb ?_);simp only[pv];obtain h0|⟨rfl,rB,hbt⟩:=(HB.out.below sb).at'
   ·exact absurd h0 (by omega)
   obtain h0|⟨rfl,rE,het⟩:=(HE.out.below sb).at'
   ·exact absurd h0 (by omega)
   have hbt':=hbt i hlt;have het':=het i hlt;clear hbt het;iterate 9 go_step
   refine ZD (by kernel_rfl) (by kernel_rfl) ?_;refine q_m ?_;refine q_m ?_;simp only[pv];refine q_x i hlt r_ ZC ?_;simp only[pv];refine X9 (by rfl) 57 _ rfl _ (ob+i*4) rfl rB (Zc (a' i)) hbt' _ b_ rfl Zd ?_;refine q_m ?_;refine q_m ?_;simp only[pv];refine q_x i hlt r_ ZC ?_;simp only[pv];refine X9 (by rfl) 57 _ rfl _ (oe+i*4) rfl rE (Zc (a' i)) het' _ b_ rfl Zd ?_;simp only[pv];refine q_v (.bool false) ((fun w'=>(Z5 _ _ _ rfl (a' i) (a' i) rfl rfl w').trans (by rw[QP]))) ?_;simp only[pv];refine ZR ?_;intro w6 hqb;replace sb:=b_o sb hqb;clear hqb;clear rB rE hbt' het';iterate 6 go_step
   refine rp ?_;refine p_m ?_;simp only[pv];refine p_v _ (x_a i 1) ?_;refine p_a (Zb ?_);simp only[pv];go_wp2
   go_roundg g
   case measure=>omega
   case rel=>exact⟨i+1,by omega,rfl,sb⟩
def th3 (A B C i:Nat):Nat:=if i=0 then A else if i=1 then B else C
def smQ (a0:Int):Nat:=lN (pk2 (pkB a0) otL leL) (3-2)
def smP (a0:Int):Nat:=lN (pk2 (pkB a0) otL leL) (3-1)
def smG (a0:Int):Nat:=pk2 (pkB a0) otG leG
theorem xA:smQ 0=1966023127/\smP 0=1055500680322183127/\smG 0=leG:=by
 have h:pkB 0=false:=by decide
 unfold smQ smP smG;rw[h];exact⟨wU,wT,rfl⟩
instance:NeZero 1966023127:=⟨by decide⟩
theorem Tg:prog.underlying 50=some (.slice (prog.elem 50)):=by kernel_rfl
theorem zV (a:Int)(k:Nat)(hk:k=1):Instr.fill (fun i=>some (i*k,k)) ((Array.range (1*k)).map ((Value.int .i64 0).cells[· %(Value.int .i64 0).cells.size]!)) [(0,.int .i64 a)]=some #[.int .i64 a]:=by
 subst hk
 kernel_rfl
section
variable {Q:Nat}[NeZero Q]
def BG (w:World)(v:Value)(L:List (Fin Q)):Prop:= ∃ab c gb ob bcs tb,v= .slice ab L.length c/\L.length<=c/\NumsAt w ab L.length (fun i=>(pco L i).val) gb ob bcs tb
theorem BG.below {w w':World}{v:Value}{L:List (Fin Q)}(h:BG w v L)(hb:Below w.heap.size w w'):BG w' v L:=by
 obtain⟨ab,c,gb,ob,bcs,tb,h1,h2,h3⟩:=h;exact⟨ab,c,gb,ob,bcs,tb,h1,h2,h3.below hb⟩
theorem Fp {w:World}{base:Nat}{v:Value}{n:Nat}{u:Nat->Nat}{L:List (Fin Q)}(h:SB w base v n u)(hn:n=L.length)(hu: ∀i,i<n->u i=(pco L i).val):BG w v L:=by
 have h0:=h;subst hn;obtain⟨_,⟨rfl,e⟩|⟨g,cap,cur,rfl,_,_,hc,_⟩⟩:=h
 ·exact⟨none,0,0,0,#[],0,by rw[e],by omega,⟨.inl e⟩⟩
 ·obtain⟨_,gb,cur2,h2⟩:=JL h0;exact⟨_,cap,gb,0,cur2,_,rfl,hc,h2.congr hu⟩
end
def rEv (q:Nat)(u:Nat->Nat)(x:Nat):Nat->Nat×Nat
 |0=>(0,1)
 |k+1=>(((rEv q u x k).1+u k*(rEv q u x k).2%q)%q,(rEv q u x k).2*x%q)
theorem E7 {q:Nat}[NeZero q](u:Nat->Nat)(x:Nat): ∀k,(fi (rEv q u x k).1:Fin q)=psm (fun i=>fi (u i)*ppw (fi x) i) k/\(fi (rEv q u x k).2:Fin q)=ppw (fi x) k
 |0=>⟨rfl,rfl⟩
 |k+1=>by
  obtain⟨h1,h2⟩:=E7 (q:=q) u x k;constructor
  ·show fi (((rEv q u x k).1+u k*(rEv q u x k).2%q)%q)=psm _ k+fi (u k)*ppw (fi x) k
   rw[WU,S3,WU,Un,h1,h2]
  ·show fi ((rEv q u x k).2*x%q)=ppw (fi x) k*fi x
   rw[WU,Un,h2]
theorem E8 {q:Nat}(h:2<=q)(u:Nat->Nat)(x:Nat): ∀k,(rEv q u x k).1<q/\(rEv q u x k).2<q
 |0=>⟨by show 0<q;omega,by show 1<q;omega⟩
 |k+1=>⟨m_ _ (by omega),m_ _ (by omega)⟩
theorem BH (ab:Option Addr)(n c x q:Nat)(u:Nat->Nat)(gb ob:Nat)(bcs:Array Value)(tb:TypeId)(w:World)(hn:n<=4000)(h2:2<=q)(hq:q<4611686018427387904)(hna:NumsAt w ab n u gb ob bcs tb):
  Calls prog 41 #[.slice ab n c,.int .i64 (x:Nat),.int .i64 (q:Nat)] w fun e w'=>e= .returned (.int .i64 ((rEv q u x n).1:Nat))/\Below w.heap.size w w':=by
 have HB:Hid (NumsAt w ab n u gb ob bcs tb):=hna;have HL:Hid (∀k,(rEv q u x k).1<q/\(rEv q u x k).2<q):=E8 h2 u x;have hmu:=fun(X Y:Nat) w'=>Jt X Y q w' (by omega) hq
 have had:=fun(X Y:Nat) w' (hX:X<q) (hY:Y<q)=>Js X Y q w' (by omega) (by omega) (by omega)
 clear hna
 go_enter func41,ntmps41
 have sb:=YG w;iterate 2 go_step
 refine rp ?_;refine p_v (.int .i64 0) (fun _=>rfl) (Zb ?_);simp only[pv];iterate 3 go_step
 refine rp ?_;refine p_v (.int .i64 0) (fun _=>rfl) ?_;refine p_v (.int .i64 1) (fun _=>rfl) (Zb ?_);simp only[pv];iterate 4 go_step
 refine rp ?_;refine p_v (.int .i64 0) (fun _=>rfl) (Zb ?_);simp only[pv]
 go_wp2_with fail
 go_loopg [7,8,9] n (fun g s7 s8 s9 wr=> ∃k:Nat,k+g=n/\s7= .int .i64 ((rEv q u x k).1:Nat)/\s8= .int .i64 ((rEv q u x k).2:Nat)/\s9= .int .i64 k/\Below w.heap.size w wr)
 case atStart=>exact⟨0,by omega,rfl,rfl,rfl,sb⟩
 case round=>
  clear sb;obtain⟨k,hk,rfl,rfl,rfl,sb⟩:=hrel
  cases gk with
  |zero=>
   obtain rfl:k=n:=by omega
   clear hk hmu had;iterate 2 go_step
   refine rp ?_;refine p_m ?_;refine p_m ?_;simp only[pv];refine p_v _ (n_l ab k c Tg) ?_;refine p_v _ (Xe k k) (Zb ?_);simp only[pv];iterate 7 go_step
   refine rp ?_;refine p_m ?_;refine p_a (Zb ?_);simp only[pv];go_wp2;go_ret;exact⟨rfl,sb⟩
  |succ g=>
   have hlt:k<n:=by omega
   obtain h0|⟨rfl,rB,hbt⟩:=HB.out.at'
   ·exact absurd h0 (by omega)
   clear rB;have hbt':=hbt k hlt;have hm1:=fun w'=>hmu (u k) (rEv q u x k).2 w'
   have ha1: ∀w',Calls prog 90 #[.int .i64 ((rEv q u x k).1:Nat),.int .i64 (u k*(rEv q u x k).2%q:Nat),.int .i64 (q:Nat)] w' (Rt (.int .i64 ((rEv q u x (k+1)).1:Nat)) w'):=fun w'=>had (rEv q u x k).1 (u k*(rEv q u x k).2%q) w' (HL.out k).1 (m_ _ (by omega))
   have hm2: ∀w',Calls prog 91 #[.int .i64 ((rEv q u x k).2:Nat),.int .i64 (x:Nat),.int .i64 (q:Nat)] w' (Rt (.int .i64 ((rEv q u x (k+1)).2:Nat)) w'):=fun w'=>hmu (rEv q u x k).2 x w'
   generalize u k*(rEv q u x k).2%q=MM at*;clear hbt hmu had;iterate 2 go_step
   refine rp ?_;refine p_m ?_;refine p_m ?_;simp only[pv];refine p_v _ (n_l (some ⟨gb,ob,none⟩) n c Tg) ?_;refine p_v _ (X4 k n) (Zb ?_);simp only[pv];obtain h0|⟨_,rB,_⟩:=(HB.out.below sb).at'
   ·exact absurd h0 (by omega)
   iterate 9 go_step
   refine rp ?_;refine p_m ?_;refine p_m ?_;refine p_m ?_;simp only[pv];refine p_x k hlt bF0 aJ0 ?_;simp only[pv];refine p_d (ob+k*1) rB (.int .i64 (u k:Nat)) hbt' bG0 ?_;refine p_m ?_;refine p_m ?_;simp only[pv];refine p_c 91 func91 #[.int .i64 (u k:Nat),.int .i64 ((rEv q u x k).2:Nat),.int .i64 (q:Nat)] (hm1 _) ?_;intro z5007 k;simp only[pv];replace sb:=kk sb k;clear k;refine p_m ?_;simp only[pv];refine p_c 90 func90 #[.int .i64 ((rEv q u x k).1:Nat),.int .i64 (MM:Nat),.int .i64 (q:Nat)] (ha1 _) ?_;intro z5009 k;simp only[pv];replace sb:=kk sb k;clear k;refine p_a (Zb ?_);simp only[pv];clear rB;iterate 2 go_step
   refine rp ?_;refine p_m ?_;refine p_m ?_;refine p_m ?_;simp only[pv];refine p_c 91 func91 #[.int .i64 ((rEv q u x k).2:Nat),.int .i64 (x:Nat),.int .i64 (q:Nat)] (hm2 _) ?_;intro z6003 k;simp only[pv];replace sb:=kk sb k;clear k;refine p_a (Zb ?_);simp only[pv];iterate 2 go_step
   refine rp ?_;refine p_m ?_;simp only[pv];refine p_v _ (x_a k 1) ?_;refine p_a (Zb ?_);simp only[pv];go_wp2
   go_roundg g
   case measure=>omega
   case rel=>exact⟨k+1,by omega,rfl,rfl,rfl,sb⟩
theorem wY {Q:Nat}[NeZero Q](v:Value)(L:List (Fin Q))(x:Nat)(w:World)(hl:L.length<=4000)(q:FdQ Q)(hq:Q<4611686018427387904)(h:BG w v L):
  Calls prog 41 #[v,.int .i64 (x:Nat),.int .i64 (Q:Nat)] w (Rt (.int .i64 ((pev (fi x) L).val:Nat)) w):=by
 obtain⟨ab,c,gb,ob,bcs,tb,rfl,hc,hna⟩:=h;have:=BH ab L.length c x Q _ gb ob bcs tb w hl q.pr.1 hq hna
 have e:(rEv Q (fun i=>(pco L i).val) x L.length).1=(pev (fi x) L).val:=by
  rw[Oo,<-Jz (E8 q.pr.1 (fun i=>(pco L i).val) x L.length).1,(E7 (q:=Q) (fun i=>(pco L i).val) x L.length).1]
  congr 1
  exact Y1 _ _ _ fun i _=>by
   show fi (pco L i).val*_=pco L i*_
   rw[On]
 rw[e]at this;exact this
theorem Fq (ab:Option Addr)(n c q:Nat)(F:Nat->Nat)(gb ob:Nat)(bcs:Array Value)(tb:TypeId)(w:World)(hn:n<=2000)(h0:0<q)(hq:q<4611686018427387904)(hna:NatsAt w ab n F gb ob bcs tb):
  Calls prog 38 #[.slice ab n c,.int .i64 (q:Nat)] w fun e w'=> ∃v',e= .returned v'/\SB w' w.heap.size v' n (fun i=>F i%q)/\Below w.heap.size w w':=by
 obtain⟨ie,hie,hz,hsz,_⟩:=T8
 have hs1: ¬1*ie.size>2^24:=by rw[hsz];decide
 have hs2: ¬1*ie.size=0:=by rw[hsz];decide
 have hl1:=fun a=>zV a ie.size hsz
 have HB:Hid (NatsAt w ab n F gb ob bcs tb):=hna;have hby:=fun(k:Nat) w' (hk:k<n)=>Bg (F k) q w' (hna.lt k hk) h0 hq
 clear hna hsz
 go_enter func38,ntmps38
 have sb:=YG w;iterate 2 go_step
 refine rp ?_;refine p_v (.slice none 0 0) ((fun _=>rfl)) (Zb ?_);simp only[pv];iterate 3 go_step
 refine rp ?_;refine p_v (.slice none 0 0) ((fun _=>rfl)) (Zb ?_);simp only[pv];iterate 4 go_step
 refine rp ?_;refine p_v (.int .i64 0) (fun _=>rfl) (Zb ?_);simp only[pv]
 go_wp2_with fail
 go_loopg [5,6] n (fun g s5 s6 wr=> ∃i:Nat,i+g=n/\s6= .int .i64 i/\SB wr w.heap.size s5 i (fun i=>F i%q)/\Below w.heap.size w wr)
 case atStart=>exact⟨0,by omega,rfl,G4 _ _ _,sb⟩
 case round=>
  clear sb;obtain⟨i,hi,rfl,hL,sb⟩:=hrel
  cases gk with
  |zero=>
   obtain rfl:i=n:=by omega
   clear hi hby;iterate 2 go_step
   refine rp ?_;refine p_m ?_;refine p_m ?_;simp only[pv];refine p_v _ (n_l ab i c Zm) ?_;refine p_v _ (Xe i i) (Zb ?_);simp only[pv];iterate 7 go_step
   refine rp ?_;refine p_m ?_;refine p_a (Zb ?_);simp only[pv];go_wp2;go_ret;exact⟨_,rfl,hL,sb⟩
  |succ g=>
   have hlt:i<n:=by omega
   have hb1:=fun w'=>hby i w' hlt
   clear hby;obtain h0|⟨rfl,rB,hbt⟩:=HB.out.at'
   ·exact absurd h0 (by omega)
   have hbt':=hbt i hlt;clear hbt rB;iterate 2 go_step
   refine rp ?_;refine p_m ?_;refine p_m ?_;simp only[pv];refine p_v _ (n_l (some ⟨gb,ob,none⟩) n c Zm) ?_;refine p_v _ (X4 i n) (Zb ?_);simp only[pv];obtain h0|⟨_,rB,_⟩:=(HB.out.below sb).at'
   ·exact absurd h0 (by omega)
   iterate 8 go_step
   refine rp ?_;refine p_m ?_;refine p_m ?_;refine p_m ?_;simp only[pv];refine p_x i hlt r_ ZC ?_;simp only[pv];refine ZJ (by rfl) 57 _ rfl _ (ob+i*4) rfl rB (Zc (F i)) hbt' _ b_ rfl Zd ?_;refine p_m ?_;simp only[pv];refine p_c 87 func87 #[.agg (Zc (F i)),.int .i64 (q:Nat)] (hb1 _) ?_;intro z5006 k;simp only[pv];replace hL:=hL.on k (Xp _);replace sb:=kk sb k;clear k;refine Wb (by rfl) 50 3 1 _ rfl #[.int .i64 (F i%q:Nat)] ie _ bF0 hie hz hs1 hs2 [(0,.int .i64 (F i%q:Nat))] rfl (hl1 _) ?_;intro gX z5007 n0 rX k;simp only[pv];clear n0;replace hL:=hL.on k (Xp _);replace sb:=kk sb k;clear k;refine Bl (by rfl) _ _ rfl (w.heap.size) (_) (i) ((fun i=>F i%q)) rfl hL gX _ rfl rX (by omega) sb.size ?_;have h0:=hL;clear hL;intro v1 z5008 hL k hp;simp only[pv];clear hp;replace sb:=sb.trans (k.below w.heap.size sb.size h0.base);clear h0;clear k;refine p_a (Zb ?_);simp only[pv];iterate 2 go_step
   refine rp ?_;refine p_m ?_;simp only[pv];refine p_v _ (x_a i 1) ?_;refine p_a (Zb ?_);simp only[pv];go_wp2
   go_roundg g
   case measure=>omega
   case rel=>exact⟨i+1,by omega,rfl,hL,sb⟩
def yV (q m:Nat)(A B:Nat->Nat):Nat->Nat->Nat
 |0,_=>0
 |i+1,j=>if i<=j/\j<i+m then(yV q m A B i j+A i*B (j-i)%q)%q else yV q m A B i j
def rIn (q m:Nat)(A B:Nat->Nat)(i k j:Nat):Nat:=if i<=j/\j<i+k then(yV q m A B i j+A i*B (j-i)%q)%q else yV q m A B i j
section
variable {Q:Nat}[NeZero Q]
end
end Go.Proofs.YtnagnkhbamhfmaaGreatDoor
