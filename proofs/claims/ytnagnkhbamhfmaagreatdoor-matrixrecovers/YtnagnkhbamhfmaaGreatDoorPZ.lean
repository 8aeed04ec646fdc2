import Derived.Test.YtnagnkhbamhfmaaGreatDoorPY
set_option maxRecDepth 100000
set_option maxHeartbeats 8000000
namespace Go.Proofs.YtnagnkhbamhfmaaGreatDoor
set_option linter.all false
open Go.RowKit
open Go.Proofs.Tryz
theorem Uw (n ca ce:Nat)(ab ae:Option Addr)(a':Nat->Nat)(gb ob ge oe:Nat)(bcs ecs:Array Value)(tb te:TypeId)(w:World)(hn:n<9223372036854775808)(hna:NatsAt w ab n a' gb ob bcs tb)(hnb:NatsAt w ae n a' ge oe ecs te):
  Calls Tryz.prog 17 #[.slice ab n ca,.slice ae n ce] w fun e w'=>e= .returned (.bool true)/\Below w.heap.size w w':=by
 have HB:Hid (NatsAt w ab n a' gb ob bcs tb):=hna;have HE:Hid (NatsAt w ae n a' ge oe ecs te):=hnb;clear hna hnb
 go_enter func17,ntmps17
 have sb:=YF w;iterate 2 go_step
 refine rp ?_;refine p_V (.bool false) (fun _=>rfl) ?_;iterate 4 go_step
 refine r_p ?_;refine p_V _ (n_l ab n ca Zq) ?_;refine p_V _ (n_l ae n ce Zq) ?_;refine p_V _ (ZT .i64 _ _ _ _ rfl n n rfl rfl false (by rw[c_ rfl];rfl)) ?_;iterate 8 go_step
 refine rp ?_;refine p_V (.int .i64 0) (fun _=>rfl) ?_
 go_wp2_with fail
 go_loopg [5] n (fun g s5 wr=> ∃i:Nat,i+g=n/\s5= .int .i64 i/\Below w.heap.size w wr)
 case atStart=>exact⟨0,by omega,rfl,sb⟩
 case round=>
  clear sb;obtain⟨i,hi,rfl,sb⟩:=hrel
  cases gk with
  |zero=>
   obtain rfl:i=n:=by omega
   clear hi;iterate 2 go_step
   refine r_p ?_;refine p_V _ (n_l ab i ca Zq) ?_;refine p_V _ (YN i i) ?_;iterate 7 go_step
   refine rp ?_;refine p_V (.bool true) (fun _=>rfl) ?_;go_wp2;go_ret;exact⟨rfl,sb⟩
  |succ g=>
   have hlt:i<n:=by omega
   iterate 2 go_step
   refine r_p ?_;refine p_V _ (n_l ab n ca Zq) ?_;refine p_V _ (YW i n) ?_;obtain h0|⟨rfl,rB,hbt⟩:=(HB.out.below sb).at'
   ·exact absurd h0 (by omega)
   obtain h0|⟨rfl,rE,het⟩:=(HE.out.below sb).at'
   ·exact absurd h0 (by omega)
   have hbt':=hbt i hlt;have het':=het i hlt;clear hbt het;iterate 9 go_step
   refine Zl (by kernel_rfl) (by kernel_rfl) ?_;refine q_W ?_;refine q_x i hlt t_ ZD ?_;refine q_W ?_;refine YX (by rfl) 57 _ rfl _ (ob+i*4) rfl rB (Zb (a' i)) hbt' _ b_ rfl Zc (q_W ?_);refine q_x i hlt t_ ZD ?_;refine q_W ?_;refine YX (by rfl) 57 _ rfl _ (oe+i*4) rfl rE (Zb (a' i)) het' _ b_ rfl Zc (q_W ?_);refine q_V (.bool false) ((fun w'=>(Z8 _ _ _ rfl (a' i) (a' i) rfl rfl w').trans (by rw[Pb]))) ?_;intro w6 hqb;replace sb:=b_o sb hqb;clear hqb;clear rB rE hbt' het';iterate 6 go_step
   refine r_p ?_;refine p_V _ (x_a i 1) ?_;go_wp2
   go_roundg g
   ·exact⟨i+1,by omega,rfl,sb⟩
   omega
def th3 (A B C i:Nat):Nat:=if i=0 then A else if i=1 then B else C
def smQ (a0:Int):Nat:=lN (pk2 (pkB a0) otL leL) (3-2)
def smP (a0:Int):Nat:=lN (pk2 (pkB a0) otL leL) (3-1)
def smG (a0:Int):Nat:=pk2 (pkB a0) otG leG
theorem wK:smQ 0=1966023127/\smP 0=1055500680322183127/\smG 0=leG:=by
 have h:pkB 0=false:=by decide
 unfold smQ smP smG;rw[h];exact⟨ud,uc,rfl⟩
instance:NeZero 1966023127:=⟨by decide⟩
theorem Z5:Tryz.prog.underlying 50=some (.slice (Tryz.prog.elem 50)):=by kernel_rfl
theorem Ao:Tryz.prog.elem 50=3:=by kernel_rfl
theorem Me (w:World):(sizeOf (Tryz.prog.elem 50)).run Tryz.prog w= .ok 1 w:=by rw[Ao];exact Q_ w
theorem IG (a:Int)(k:Nat)(hk:k=1):Instr.fill (fun i=>some (i*k,k)) ((Array.range (1*k)).map ((Value.int .i64 0).cells[· %(Value.int .i64 0).cells.size]!)) [(0,.int .i64 a)]=some #[.int .i64 a]:=by
 subst hk
 kernel_rfl
theorem yY (a b:Int)(k:Nat)(hk:k=1):Instr.fill (fun i=>some (i*k,k)) ((Array.range (2*k)).map ((Value.int .i64 0).cells[· %(Value.int .i64 0).cells.size]!)) [(0,.int .i64 a),(1,.int .i64 b)]=some #[.int .i64 a,.int .i64 b]:=by
 subst hk
 kernel_rfl
theorem IH (n:Nat):madeCells (Value.int .i64 0).cells (n*1)=isC n (fun _=>0):=by
 apply B_;intro i;by_cases hi:i<n
 ·rw[Xc n _ i hi];unfold madeCells;simp[hi,Value.cells,aW0]
 ·rw[h_ (by rw[fE0];omega),h_ (by rw[YS];omega)]
section
variable {Q:Nat}[NeZero Q]
def SF (w:World)(v:Value)(L:List (Fin Q)):Prop:= ∃ab c gb ob bcs tb,v= .slice ab L.length c/\L.length<=c/\NumsAt w ab L.length (fun i=>(pco L i).val) gb ob bcs tb
theorem SF.below {w w':World}{v:Value}{L:List (Fin Q)}(h:SF w v L)(hb:Below w.heap.size w w'):SF w' v L:=by
 obtain⟨ab,c,gb,ob,bcs,tb,h1,h2,h3⟩:=h;exact⟨ab,c,gb,ob,bcs,tb,h1,h2,h3.below hb⟩
theorem Mf (w:World):SF w (.slice none 0 0) ([]:List (Fin Q)):=⟨none,0,0,0,#[],0,rfl,e_ _,⟨.inl rfl⟩⟩
theorem Qd {w:World}{base:Nat}{v:Value}{n:Nat}{u:Nat->Nat}{L:List (Fin Q)}(h:WU w base v n u)(hn:n=L.length)(hu: ∀i,i<n->u i=(pco L i).val):SF w v L:=by
 have h0:=h;subst hn;obtain⟨_,⟨rfl,e⟩|⟨g,cap,cur,rfl,_,_,hc,_⟩⟩:=h
 ·exact⟨none,0,0,0,#[],0,by rw[e],by omega,⟨.inl e⟩⟩
 ·obtain⟨_,gb,cur2,h2⟩:=T9 h0;exact⟨_,cap,gb,0,cur2,_,rfl,hc,h2.congr hu⟩
theorem II (L:List (Fin Q))(i:Nat):(pco L i).val<Q:=(pco L i).isLt
end
theorem PD (ab:Option Addr)(n c:Nat)(u:Nat->Nat)(gb ob:Nat)(bcs:Array Value)(tb:TypeId)(w:World)(hn:n<9223372036854775808)(hc:n<=c)(hna:NumsAt w ab n u gb ob bcs tb):
  Calls Tryz.prog 147 #[.slice ab n c] w fun e w'=>e= .returned (.slice ab (yTn u n) c)/\Below w.heap.size w w':=by
 have HB:Hid (NumsAt w ab n u gb ob bcs tb):=hna;clear hna
 go_enter func147,ntmps147
 have sb:=YF w;iterate 2 go_step
 refine rp ?_;refine p_V (.slice none 0 0) ((fun _=>rfl)) ?_;iterate 3 go_step
 refine r_p ?_;refine p_V _ (n_l ab n c Z5) ?_
 go_wp2_with fail
 go_loopg [3] n (fun g s3 wr=>g<=n/\s3= .int .i64 (g:Nat)/\Hid (yTn u g=yTn u n)/\Below w.heap.size w wr)
 case atStart=>exact⟨e_ n,rfl,(show yTn u n=yTn u n from rfl),sb⟩
 case round=>
  clear sb;obtain⟨hg,rfl,he,sb⟩:=hrel
  cases gk with
  |zero=>
   iterate 2 go_step
   refine r_p ?_;refine p_V _ (Yf _ _ _ _ rfl ((0:Nat):Int) 0 rfl rfl false (d_ (by decide))) ?_;refine p_K false (.bool false) ?_;iterate 7 go_step
   refine r_p ?_;refine p_V _ (Sa _ _ _ rfl Z5 1 Me _ n c 0 rfl rfl (by omega)) ?_;go_wp2;go_ret;exact⟨by rw[<-he.out];rfl,sb⟩
  |succ m=>
   obtain h0|⟨rfl,rB,hbt⟩:=(HB.out.below sb).at'
   ·exact absurd h0 (by omega)
   have hbt':=hbt m (by omega);clear hbt;by_cases hz:u m=0
   ·have he':Hid (yTn u m=yTn u n):=by
     show _=_
     rw[<-he.out];show _=if u m=0 then _ else _
     rw[i_ hz]
    clear he;iterate 2 go_step
    refine r_p ?_;refine p_V _ (NL ((m+1:Nat):Int) 0) ?_;refine p_V _ (ZS _ _ _ _ rfl (m+1) 1 rfl rfl (by omega) (by omega)) ?_;refine p_V _ ((Zo 50 _ _ rfl gb ob (n) (c) rfl (m) rfl (by omega) _ L_ 1 Q_)) ?_;refine p_D (ob+m*1) rB (.int .i64 (u m:Nat)) hbt' aD0 ?_;refine p_V _ (Zz .i64 _ _ _ _ rfl (u m:Nat) 0 rfl rfl true (c_ (by omega))) ?_;refine p_K true (.bool true) ?_;clear rB hz;iterate 7 go_step
    refine r_p ?_;refine p_V _ (ZS _ _ _ _ rfl (m+1) 1 rfl rfl (by omega) (by omega)) ?_;go_wp2
    go_roundg m
    ·exact⟨by omega,rfl,he',sb⟩
    omega
   ·have HE0:Hid (m+1=yTn u n):=by
     show _=_
     rw[<-he.out];show _=if u m=0 then _ else _
     rw[j_ hz]
    clear he;iterate 2 go_step
    refine r_p ?_;refine p_V _ (NL ((m+1:Nat):Int) 0) ?_;refine p_V _ (ZS _ _ _ _ rfl (m+1) 1 rfl rfl (by omega) (by omega)) ?_;refine p_V _ ((Zo 50 _ _ rfl gb ob (n) (c) rfl (m) rfl (by omega) _ L_ 1 Q_)) ?_;refine p_D (ob+m*1) rB (.int .i64 (u m:Nat)) hbt' aD0 ?_;refine p_V _ (Zz .i64 _ _ _ _ rfl (u m:Nat) 0 rfl rfl false (d_ (by omega))) ?_;refine p_K true (.bool false) ?_;clear rB hz;iterate 7 go_step
    refine r_p ?_;refine p_V _ (Sa _ _ _ rfl Z5 1 Me _ n c (m+1) rfl rfl (by omega)) ?_;go_wp2;go_ret;exact⟨by rw[<-HE0.out];rfl,sb⟩
def rEv (q:Nat)(u:Nat->Nat)(x:Nat):Nat->Nat×Nat
 |0=>(0,1)
 |k+1=>(((rEv q u x k).1+u k*(rEv q u x k).2%q)%q,(rEv q u x k).2*x%q)
theorem yZ (ab:Option Addr)(n c k:Nat)(u:Nat->Nat)(gb ob:Nat)(bcs:Array Value)(tb:TypeId)(w:World)(hk:k<n)(hna:NumsAt w ab n u gb ob bcs tb):
  Calls Tryz.prog 148 #[.slice ab n c,.int .i64 (k:Nat)] w fun e w'=>e= .returned (.int .i64 (u k:Nat))/\Below w.heap.size w w':=by
 obtain h0|⟨rfl,rB,hbt⟩:=hna.at'
 ·exact absurd h0 (by omega)
 clear rB;have hbt':=hbt k hk;clear hbt
 go_enter func148,ntmps148
 have sb:=YF w;iterate 2 go_step
 refine rp ?_;refine p_V (.int .i64 0) (fun _=>rfl) ?_;iterate 4 go_step
 refine r_p ?_;refine p_V _ (n_l (some ⟨gb,ob,none⟩) n c Z5) ?_;refine p_V _ (YW k n) ?_;obtain h0|⟨_,rB,_⟩:=(hna.below sb).at'
 ·exact absurd h0 (by omega)
 iterate 4 go_step
 refine r_p ?_;refine p_X k hk L_ Q_ ?_;refine p_D (ob+k*1) rB (.int .i64 (u k:Nat)) hbt' aD0 ?_;go_wp2;go_ret;exact⟨rfl,sb⟩
theorem Ap (ab:Option Addr)(n c k:Nat)(w:World)(hk:n<=k):
  Calls Tryz.prog 148 #[.slice ab n c,.int .i64 (k:Nat)] w fun e w'=>e= .returned (.int .i64 ((0:Nat):Int))/\Below w.heap.size w w':=by
 go_enter func148,ntmps148
 have sb:=YF w;iterate 2 go_step
 refine rp ?_;refine p_V (.int .i64 0) (fun _=>rfl) ?_;iterate 4 go_step
 refine r_p ?_;refine p_V _ (n_l ab n c Z5) ?_;refine p_V _ (YN k n) ?_;iterate 7 go_step
 refine rp ?_;refine p_V (.int .i64 0) (fun _=>rfl) ?_;go_wp2;go_ret;exact⟨rfl,sb⟩
theorem IJ (ab:Option Addr)(n c k:Nat)(u:Nat->Nat)(gb ob:Nat)(bcs:Array Value)(tb:TypeId)(w:World)(hna:NumsAt w ab n u gb ob bcs tb):
  Calls Tryz.prog 148 #[.slice ab n c,.int .i64 (k:Nat)] w (Rt (.int .i64 (yCf n u k:Nat)) w):=by
 unfold yCf;by_cases h:k<n
 ·rw[i_ h];exact yZ ab n c k u gb ob bcs tb w h hna
 ·rw[j_ h];exact Ap ab n c k w (by omega)
theorem DY {Q:Nat}[NeZero Q](L:List (Fin Q))(i:Nat):yCf L.length (fun i=>(pco L i).val) i=(pco L i).val:=by
 unfold yCf
 split
 ·rfl
 ·rw[XY L i (by omega)];rfl
theorem IK (ab:Option Addr)(n c:Nat)(u:Nat->Nat)(gb ob:Nat)(bcs:Array Value)(tb:TypeId)(w:World)(hn:n<=4000)(hu: ∀i,u i<9223372036854775808)(hna:NumsAt w ab n u gb ob bcs tb):
  Calls Tryz.prog 18 #[.slice ab n c] w fun e w'=> ∃v',e= .returned v'/\UA w' w.heap.size v' n u/\Below w.heap.size w w':=by
 obtain⟨ie,hie,hz,hsz,_⟩:=Yx
 have hs1: ¬1*ie.size>2^24:=by rw[hsz];decide
 have hs2: ¬1*ie.size=0:=by rw[hsz];decide
 have hl1:=fun A=>VS A ie.size hsz
 have HB:Hid (NumsAt w ab n u gb ob bcs tb):=hna
 have hin: ∀k w',Calls Tryz.prog 40 #[.int .i64 (u k:Nat)] w' (Rt (.agg (Zb (u k))) w'):=fun k w'=>by
  have:=Vo (u k:Int) w' (by have:=hu k;omega);rw[q_]at this;exact this
 clear hna hsz
 go_enter func18,ntmps18
 have sb:=YF w;iterate 2 go_step
 refine rp ?_;refine p_V (.slice none 0 0) ((fun _=>rfl)) ?_;iterate 3 go_step
 refine rp ?_;refine p_V (.slice none 0 0) ((fun _=>rfl)) ?_;iterate 4 go_step
 refine rp ?_;refine p_V (.int .i64 0) (fun _=>rfl) ?_
 go_wp2_with fail
 go_loopg [3,4] n (fun g s3 s4 wr=> ∃i:Nat,i+g=n/\s4= .int .i64 i/\UA wr w.heap.size s3 i u/\Below w.heap.size w wr)
 case atStart=>exact⟨0,by omega,rfl,FU _ _ _,sb⟩
 case round=>
  clear sb;obtain⟨i,hi,rfl,hL,sb⟩:=hrel
  cases gk with
  |zero=>
   obtain rfl:i=n:=by omega
   clear hi hin;iterate 2 go_step
   refine r_p ?_;refine p_V _ (n_l ab i c Z5) ?_;refine p_V _ (YN i i) ?_;iterate 7 go_step
   refine r_p ?_;go_wp2;go_ret;exact⟨_,rfl,hL,sb⟩
  |succ g=>
   have hlt:i<n:=by omega
   obtain h0|⟨rfl,rB,hbt⟩:=HB.out.at'
   ·exact absurd h0 (by omega)
   have hbt':=hbt i hlt;clear hbt rB;iterate 2 go_step
   refine r_p ?_;refine p_V _ (n_l (some ⟨gb,ob,none⟩) n c Z5) ?_;refine p_V _ (YW i n) ?_;obtain h0|⟨_,rB,_⟩:=(HB.out.below sb).at'
   ·exact absurd h0 (by omega)
   iterate 8 go_step
   refine r_p ?_;refine p_X i hlt L_ Q_ ?_;refine p_D (ob+i*1) rB (.int .i64 (u i:Nat)) hbt' aD0 ?_;refine p_c 40 func40 #[.int .i64 (u i:Nat)] (hin i _) ?_;intro z5005 k;refine p_W ?_;replace hL:=hL.on k (Yo _);replace sb:=kk sb k;clear k;refine Y3 (by rfl) 22 57 1 _ rfl (Zb (u i)) ie _ t_ hie hz hs1 hs2 [(0,.agg (Zb (u i)))] rfl (hl1 _) ?_;intro gX z5006 n0 rX k;refine p_W ?_;clear n0;replace hL:=hL.on k (Yo _);replace sb:=kk sb k;clear k;refine B4 (by rfl) _ _ rfl (w.heap.size) (_) (i) (u) rfl hL gX _ rfl rX (by omega) sb.size ?_;have h0:=hL;clear hL;intro v1 z5007 hL k hp;refine p_W ?_;clear hp;replace sb:=sb.trans (k.below w.heap.size sb.size h0.base);clear h0;clear k;refine p_W ?_;iterate 2 go_step
   refine r_p ?_;refine p_V _ (x_a i 1) ?_;go_wp2
   go_roundg g
   ·exact⟨i+1,by omega,rfl,hL,sb⟩
   omega
def S9 (q m:Nat)(A B:Nat->Nat):Nat->Nat->Nat
 |0,_=>0
 |i+1,j=>if i<=j/\j<i+m then(S9 q m A B i j+A i*B (j-i)%q)%q else S9 q m A B i j
def rIn (q m:Nat)(A B:Nat->Nat)(i k j:Nat):Nat:=if i<=j/\j<i+k then(S9 q m A B i j+A i*B (j-i)%q)%q else S9 q m A B i j
theorem wL (q m:Nat)(A B:Nat->Nat)(i:Nat):rIn q m A B i 0=S9 q m A B i:=funext fun j=>j_ (by omega)
theorem O2 {q:Nat}(h:0<q)(m:Nat)(A B:Nat->Nat): ∀i j,S9 q m A B i j<q
 |0,_=>h
 |i+1,j=>by
  show(if _ then _ else _)<q
  split
  ·exact n_ _ h
  ·exact O2 h m A B i j
theorem IL {q:Nat}[NeZero q](m:Nat)(A B:Nat->Nat)(j:Nat): ∀i,(fi (S9 q m A B i j):Fin q)=psm (fun i'=>if i'<=j then fi (A i')*pco (fl m B) (j-i')else 0) i
 |0=>rfl
 |i+1=>by
  have ih:=IL (q:=q) m A B j i;show fi (if i<=j/\j<i+m then _ else _)=psm _ i+if i<=j then _ else _
  rw[<-ih];by_cases h1:i<=j
  ·by_cases h2:j<i+m
   ·rw[i_ ⟨h1,h2⟩,i_ h1,Wu _ _ _ (by omega),WS,S7,WS,Um]
   ·rw[j_ (by omega),i_ h1,Vj _ _ _ (by omega)]
    grind
  ·rw[j_ (by omega),j_ h1]
   grind
theorem Eh (ab ae:Option Addr)(n c m ce q:Nat)(w:World)(hn:n=0):
  Calls Tryz.prog 107 #[.slice ab n c,.slice ae m ce,.int .i64 (q:Nat)] w fun e w'=>e= .returned (.slice none 0 0)/\Below w.heap.size w w':=by
 go_enter func107,ntmps107
 have sb:=YF w;iterate 2 go_step
 refine rp ?_;refine p_V (.slice none 0 0) ((fun _=>rfl)) ?_;iterate 4 go_step
 refine r_p ?_;refine p_V _ (n_l ab n c Z5) ?_;refine p_V _ (Zz .i64 _ _ _ _ rfl n 0 rfl rfl true (c_ (by omega))) ?_;refine p_K true (.bool true) ?_;iterate 4 go_step
 refine rp ?_;refine p_V (.slice none 0 0) ((fun _=>rfl)) ?_;go_wp2;go_ret;exact⟨rfl,sb⟩
theorem Ei (ab ae:Option Addr)(n c m ce q:Nat)(w:World)(hn:n≠0)(hm:m=0):
  Calls Tryz.prog 107 #[.slice ab n c,.slice ae m ce,.int .i64 (q:Nat)] w fun e w'=>e= .returned (.slice none 0 0)/\Below w.heap.size w w':=by
 go_enter func107,ntmps107
 have sb:=YF w;iterate 2 go_step
 refine rp ?_;refine p_V (.slice none 0 0) ((fun _=>rfl)) ?_;iterate 4 go_step
 refine r_p ?_;refine p_V _ (n_l ab n c Z5) ?_;refine p_V _ (Zz .i64 _ _ _ _ rfl n 0 rfl rfl false (d_ (by omega))) ?_;refine p_V _ (n_l ae m ce Z5) ?_;refine p_V _ (Zz .i64 _ _ _ _ rfl m 0 rfl rfl true (c_ (by omega))) ?_;refine p_K false (.bool true) ?_;iterate 4 go_step
 refine rp ?_;refine p_V (.slice none 0 0) ((fun _=>rfl)) ?_;go_wp2;go_ret;exact⟨rfl,sb⟩
theorem LF (ab ae:Option Addr)(n c m ce q X:Nat)(u v2:Nat->Nat)(gb ob ge oe:Nat)(bcs ecs:Array Value)(tb te:TypeId)(w:World)(hX:n+m-1=X)(hn0:n≠0)(hm0:m≠0)(hn:n<=1000)(hm:m<=1000)(h0:0<q)(hq:q<4611686018427387904)(hna:NumsAt w ab n u gb ob bcs tb)(hnb:NumsAt w ae m v2 ge oe ecs te):
  Calls Tryz.prog 107 #[.slice ab n c,.slice ae m ce,.int .i64 (q:Nat)] w fun e w'=> ∃g,e= .returned (.slice (some ⟨g,0,none⟩) (yTn (S9 q m u v2 n) X) X)/\Row w' g (isC X (S9 q m u v2 n)) 3/\Below w.heap.size w w':=by
 obtain⟨ie,hie,hze,hsz,hby⟩:=Wx;have HB:Hid (NumsAt w ab n u gb ob bcs tb):=hna;have HE:Hid (NumsAt w ae m v2 ge oe ecs te):=hnb;have HL:Hid (∀i j,S9 q m u v2 i j<q):=O2 h0 m u v2;have hmu:=fun(X Y:Nat) w'=>Pm X Y q w' h0 hq
 have had:=fun(X Y:Nat) w' (hX:X<q) (hY:Y<q)=>Ph X Y q w' h0 (by omega) (by omega)
 have hgb:n≠0->gb<w.heap.size:=fun h=>by
  rcases hna.at' with h1|⟨_,r,_⟩
  ·exact absurd h1 h
  ·exact r.lt
 have hge:m≠0->ge<w.heap.size:=fun h=>by
  rcases hnb.at' with h1|⟨_,r,_⟩
  ·exact absurd h1 h
  ·exact r.lt
 replace hgb:=hgb hn0;replace hge:=hge hm0;clear hna hnb
 go_enter func107,ntmps107
 have sb:=YF w;iterate 2 go_step
 refine rp ?_;refine p_V (.slice none 0 0) ((fun _=>rfl)) ?_;iterate 4 go_step
 refine r_p ?_;refine p_V _ (n_l ab n c Z5) ?_;refine p_V _ (Zz .i64 _ _ _ _ rfl n 0 rfl rfl false (d_ (by omega))) ?_;refine p_V _ (n_l ae m ce Z5) ?_;refine p_V _ (Zz .i64 _ _ _ _ rfl m 0 rfl rfl false (d_ (by omega))) ?_;refine p_K false (.bool false) ?_;iterate 7 go_step
 refine r_p ?_;refine p_V _ (n_l ab n c Z5) ?_;refine p_V _ (n_l ae m ce Z5) ?_;refine p_V _ (x_a n m) ?_;refine p_V (.int .i64 ((X:Nat):Int)) (fun w'=>(ZS _ _ _ _ rfl (n+m) 1 rfl rfl (by omega) (by omega) w').trans (by rw[hX])) ?_;refine XX (by rfl) 50 3 _ _ rfl ie _ L_ hie hze X rfl rfl (by rw[hsz];omega) (by rw[hby];omega) (by omega) ?_;intro gM z3006 n0 rM k;refine p_W ?_;have bM:=f_ sb.size n0;clear n0;replace sb:=kk sb k;clear k;refine p_W ?_;rw[hsz,IH]at rM
 clear hie hze hsz hby;iterate 4 go_step
 refine rp ?_;refine p_V (.int .i64 0) (fun _=>rfl) ?_
 go_wp2_with fail
 go_loopg [8,9] n (fun g s8 s9 wr=> ∃i:Nat,i+g=n/\s8= .int .i64 i/\Row wr gM (isC X (S9 q m u v2 i)) 3/\Below w.heap.size w wr)
 case atStart=>exact⟨0,by omega,rfl,rM,sb⟩
 case round=>
  clear rM sb;obtain⟨i,hi,rfl,rM,sb⟩:=hrel
  cases gk with
  |zero=>
   obtain rfl:i=n:=by omega
   clear hi hmu had;have htr:=fun w' (r:Row w' gM (isC X (S9 q m u v2 i)) 3)=>PD (some ⟨gM,0,none⟩) X X (S9 q m u v2 i) gM 0 _ _ w' (by omega) (e_ X) (N7 r)
   iterate 2 go_step
   refine r_p ?_;refine p_V _ (n_l ab i c Z5) ?_;refine p_V _ (YN i i) ?_;iterate 7 go_step
   refine r_p ?_;refine p_c 147 func147 #[.slice (some ⟨gM,0,none⟩) X X] (htr _ rM) ?_;intro z11001 k;refine p_W ?_;replace rM:=k.ro rM;replace sb:=kk sb k;clear k;refine p_W ?_;go_wp2;go_ret;exact⟨gM,rfl,rM,sb⟩
  |succ g=>
   have hlt:i<n:=by omega
   obtain h1|⟨rfl,rB,hbt⟩:=HB.out.at'
   ·exact absurd h1 hn0
   have hbt':=hbt i hlt;clear rB hbt;iterate 2 go_step
   refine r_p ?_;refine p_V _ (n_l (some ⟨gb,ob,none⟩) n c Z5) ?_;refine p_V _ (YW i n) ?_;iterate 9 go_step
   refine rp ?_;refine p_V (.int .i64 0) (fun _=>rfl) ?_
   go_wp2_with fail
   go_loopg [9] m (fun y s9 wr=> ∃k:Nat,k+y=m/\s9= .int .i64 k/\Row wr gM (isC X (rIn q m u v2 i k)) 3/\Below w.heap.size w wr)
   case atStart=>exact⟨0,by omega,rfl,by rw[wL];exact rM,sb⟩
   case round=>
    clear rM sb;obtain⟨k,hk,rfl,rM,sb⟩:=hrel
    cases gk with
    |zero=>
     obtain rfl:k=m:=by omega
     clear hk;iterate 2 go_step
     refine r_p ?_;refine p_V _ (n_l ae k ce Z5) ?_;refine p_V _ (YN k k) ?_;iterate 6 go_step
     refine r_p ?_;refine p_V _ (x_a i 1) ?_;go_wp2
     go_roundg g
     ·exact⟨i+1,by omega,rfl,rM,sb⟩
     omega
    |succ y=>
     have hltk:k<m:=by omega
     have hik:i+k<X:=by omega
     obtain h1|⟨rfl,rE,het⟩:=HE.out.at'
     ·exact absurd h1 hm0
     have het':=het k hltk;clear rE het;have hold:rIn q m u v2 i k (i+k)=S9 q m u v2 i (i+k):=j_ (by omega)
     have hcell:(isC X (rIn q m u v2 i k))[0+(i+k)*1]?=some (.int .i64 (S9 q m u v2 i (i+k):Nat)):=by
      rw[A_,I_,Xc X _ _ hik,hold]
     have hput:(isC X (rIn q m u v2 i k)).setIfInBounds (0+(i+k)*1) (.int .i64 (rIn q m u v2 i (k+1) (i+k):Nat))=isC X (rIn q m u v2 i (k+1)):=by
      rw[A_,I_];refine RD X _ _ (i+k) _ fun j hj=>?_
      by_cases hjk:j=i+k
      ·rw[i_ hjk,hjk]
      ·rw[j_ hjk];unfold rIn;by_cases h2:i<=j/\j<i+k
       ·rw[i_ h2,i_ (by omega)]
       ·rw[j_ h2,j_ (by omega)]
     have hval:rIn q m u v2 i (k+1) (i+k)=(S9 q m u v2 i (i+k)+u i*v2 k%q)%q:=by
      unfold rIn;rw[i_ (by omega),show i+k-i=k by omega]
     have hm1:=fun w'=>hmu (u i) (v2 k) w'
     have ha1:=fun w'=>had (S9 q m u v2 i (i+k)) (u i*v2 k%q) w' (HL.out _ _) (n_ _ h0)
     rw[<-hval]at ha1
     have hsz':0+(i+k)*1<(isC X (rIn q m u v2 i k)).size:=by rw[YS];omega
     clear hval hold;generalize u i*v2 k%q=MM at*;generalize rIn q m u v2 i (k+1) (i+k)=NN at*;generalize S9 q m u v2 i (i+k)=OO at*;iterate 2 go_step
     refine r_p ?_;refine p_V _ (n_l (some ⟨ge,oe,none⟩) m ce Z5) ?_;refine p_V _ (YW k m) ?_;obtain h1|⟨_,rB,_⟩:=(HB.out.below sb).at'
     ·exact absurd h1 hn0
     obtain h1|⟨_,rE,_⟩:=(HE.out.below sb).at'
     ·exact absurd h1 hm0
     have orB:=rB;have orE:=rE;iterate 8 go_step
     refine Yl (by kernel_rfl) [23] [(0,false),(1,false),(2,false),(3,false),(4,false),(5,false),(6,false),(7,false),(8,false),(9,false),(10,false),(11,false),(12,false),(13,false),(14,false),(15,false),(16,false),(17,false),(18,false),(19,false),(20,false),(21,false),(22,false),(23,true)] ?_ (by kernel_rfl);have orM:=rM;have cb:=YB sb;have osb:=sb;refine e_m ?_;refine e_m ?_;refine e_m ?_;simp only[pv];refine e_v (.int .i64 ((i+k:Nat):Int)) (x_a i k) ?_;refine e_m ?_;refine e_m ?_;refine e_m ?_;simp only[pv];refine e_v (.int .i64 ((i+k:Nat):Int)) (x_a i k) ?_;simp only[pv];refine e_v (.pointer (some ⟨gM,0+(i+k)*1,none⟩)) ((Zo 50 _ _ rfl gM 0 (X) (X) rfl ((i+k)) rfl (hik) _ L_ 1 Q_)) ?_;simp only[pv];refine YU (by rfl) 3 _ rfl _ (0+(i+k)*1) rfl (fun _ hb=>(orM.belowAll hb).r) (.int .i64 (OO:Nat)) hcell aD0 ?_;refine e_m ?_;refine e_m ?_;simp only[pv];refine e_v (.pointer (some ⟨gb,ob+i*1,none⟩)) ((Zo 50 _ _ rfl gb ob (n) (c) rfl (i) rfl (hlt) _ L_ 1 Q_)) ?_;simp only[pv];refine YU (by rfl) 3 _ rfl _ (ob+i*1) rfl (fun _ hb=>(orB.belowAll hb)) (.int .i64 (u i:Nat)) hbt' aD0 ?_;refine e_m ?_;refine e_m ?_;simp only[pv];refine e_v (.pointer (some ⟨ge,oe+k*1,none⟩)) ((Zo 50 _ _ rfl ge oe (m) (ce) rfl (k) rfl (hltk) _ L_ 1 Q_)) ?_;simp only[pv];refine YU (by rfl) 3 _ rfl _ (oe+k*1) rfl (fun _ hb=>(orE.belowAll hb)) (.int .i64 (v2 k:Nat)) het' aD0 ?_;refine e_m ?_;simp only[pv];refine XG (by rfl) 91 _ _ rfl func91 (by kernel_rfl) #[.int .i64 (u i:Nat),.int .i64 (v2 k:Nat),.int .i64 (q:Nat)] rfl _ (fun w _=>hm1 w) ?_;refine e_m ?_;simp only[pv];refine XG (by rfl) 90 _ _ rfl func90 (by kernel_rfl) #[.int .i64 (OO:Nat),.int .i64 (MM:Nat),.int .i64 (q:Nat)] rfl _ (fun w _=>ha1 w) ?_;simp only[pv];refine e_v (.pointer (some ⟨gM,0+(i+k)*1,none⟩)) ((Zo 50 _ _ rfl gM 0 (X) (X) rfl ((i+k)) rfl (hik) _ L_ 1 Q_)) ?_;simp only[pv];refine T2 (by rfl) 3 _ _ rfl _ (0+(i+k)*1) rfl rM (.int .i64 (NN:Nat)) rfl rfl rfl Vd (by exact hsz') (isC X (rIn q m u v2 i (k+1))) hput ?_;intro wa23 hqb;replace rM:=rM.belowAll hqb;replace sb:=b_o sb hqb;clear hqb rM;intro wb23 rM k;refine⟨fun h=>(by cases h),?_⟩;simp only[Act.put];replace sb:=sb.trans (k.below _ sb.size (by simp<;>omega));clear k;refine VG ?_;intro wz hqb;replace rM:=rM.belowAll hqb;replace sb:=b_o sb hqb;clear hqb cb osb orM;clear hput hcell hsz' rB rE orB orE;iterate 2 go_step
     refine r_p ?_;refine p_V _ (x_a k 1) ?_;go_wp2
     go_roundg y
     ·exact⟨k+1,by omega,rfl,rM,sb⟩
     omega
theorem wM {Q:Nat}[NeZero Q](va vb:Value)(La Lb:List (Fin Q))(w:World)(ha:La.length<=1000)(hb:Lb.length<=1000)(q:FdQ Q)(hq:Q<4611686018427387904)(h1:SF w va La)(h2:SF w vb Lb):
  Calls Tryz.prog 107 #[va,vb,.int .i64 (Q:Nat)] w fun e w'=> ∃v',e= .returned v'/\SF w' v' (Vi La Lb)/\Below w.heap.size w w':=by
 obtain⟨ab,c,gb,ob,bcs,tb,rfl,hc,hna⟩:=h1;obtain⟨ae,ce,ge,oe,ecs,te,rfl,hce,hnb⟩:=h2;by_cases hn0:La.length=0
 ·refine(Eh ab ae La.length c Lb.length ce Q w hn0).mono ?_;rintro e w' ⟨rfl,hb'⟩;have e1:Vi La Lb=[]:=i_ (.inl (aZ0 hn0));rw[e1];exact⟨_,rfl,Mf _,hb'⟩
 by_cases hm0:Lb.length=0
 ·refine(Ei ab ae La.length c Lb.length ce Q w hn0 hm0).mono ?_;rintro e w' ⟨rfl,hb'⟩;have e1:Vi La Lb=[]:=i_ (.inr (aZ0 hm0));rw[e1];exact⟨_,rfl,Mf _,hb'⟩
 refine(LF ab ae La.length c Lb.length ce Q _ _ _ gb ob ge oe bcs ecs tb te w rfl hn0 hm0 ha hb q.pos hq hna hnb).mono ?_;rintro e w' ⟨g,rfl,r,hb'⟩;have hlt:=fun j=>O2 q.pos Lb.length (fun i=>(pco La i).val) (fun i=>(pco Lb i).val) La.length j
 have hL: ∀i,pco (fl (La.length+Lb.length-1) (S9 Q Lb.length (fun i=>(pco La i).val) (fun i=>(pco Lb i).val) La.length):List (Fin Q)) i=pco (Vi La Lb) i:=fun i=>by
  rw[Uk,Vh];by_cases hi:i<La.length+Lb.length-1
  ·rw[Wu _ _ _ hi,IL,J7]
   exact Xd _ _ _ fun j _=>by
    show(if j<=i then fi (pco La j).val*_ else _)=(if j<=i then _ else _)
    rw[TZ]
  ·rw[Vj _ _ _ (by omega)];refine(Wp _ _ fun j hj=>?_).symm;show(if j<=i then _ else _)=(0:Fin Q)
   split
   ·rw[XY Lb _ (by omega)];grind
   ·rfl
 obtain⟨e1,e2⟩:=LB _ _ (Vi La Lb) (fun i _=>hlt i) hL;rw[Ul]at e1 e2;have h4:=Un (S9 Q Lb.length (fun i=>(pco La i).val) (fun i=>(pco Lb i).val) La.length) (La.length+Lb.length-1);have h3:=(N7 r).take h4;rw[e1]at e2 h3 h4;rw[e1];exact⟨_,rfl,⟨_,_,_,_,_,_,rfl,h4,h3.congr e2⟩,hb'⟩
section
variable {Q:Nat}[NeZero Q]
theorem SF.nums {w:World}{v:Value}{L:List (Fin Q)}{n:Nat}(h:SF w v L)(hn:L.length=n): ∃ab c gb ob bcs tb,v= .slice ab n c/\n<=c/\NumsAt w ab n (fun i=>(pco L i).val) gb ob bcs tb:=by
 subst hn;exact h
theorem y5 {w:World}{g A:Nat}(r:Row w g #[.int .i64 (A:Nat)] 3)(hA:A<Q):SF w (.slice (some ⟨g,0,none⟩) 1 1) [(fi A:Fin Q)]:=
 ⟨_,1,g,0,_,_,rfl,e_ 1,⟨.inr ⟨rfl,r.r,fun i hi=>by
  have hi':i<1:=hi;obtain rfl:i=0:=by omega
  show some _=some (Value.int .i64 (((fi A:Fin Q)).val:Nat))
  rw[Uo hA]
  rfl⟩⟩⟩
theorem y6 {w:World}{g A B:Nat}(r:Row w g #[.int .i64 (A:Nat),.int .i64 (B:Nat)] 3)(hA:A<Q)(hB:B<Q):SF w (.slice (some ⟨g,0,none⟩) 2 2) [(fi A:Fin Q),fi B]:=
 ⟨_,2,g,0,_,_,rfl,e_ 2,⟨.inr ⟨rfl,r.r,fun i hi=>by
  have hi':i<2:=hi;have h:i=0∨i=1:=by omega
  rcases h with rfl|rfl
  ·show some _=some (Value.int .i64 (((fi A:Fin Q)).val:Nat))
   rw[Uo hA];rfl
  ·show some _=some (Value.int .i64 (((fi B:Fin Q)).val:Nat))
   rw[Uo hB]
   rfl⟩⟩⟩
theorem Aq (pr:IsP Q)(A:Nat)(hA:A<Q):(fi (ivN A Q):Fin Q)=ivF (fi A):=by
 unfold ivF;rw[Uo hA,yA pr,g_ hA]
end