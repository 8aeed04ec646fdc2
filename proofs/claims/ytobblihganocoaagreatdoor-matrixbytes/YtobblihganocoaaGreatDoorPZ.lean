import Derived.Test.YtobblihganocoaaGreatDoorPY
set_option maxRecDepth 100000
set_option maxHeartbeats 2000000
namespace Go.Proofs.YtobblihganocoaaGreatDoor
open Go.RowKit
set_option linter.unusedVariables false
theorem TX (n ca ce:Nat)(ab ae:Option Addr)(a':Nat->Nat)(gb ob ge oe:Nat)(bcs ecs:Array Value)(tb te:TypeId)(w:World)(hn:n<9223372036854775808)(hna:NatsAt w ab n a' gb ob bcs tb)(hnb:NatsAt w ae n a' ge oe ecs te):
  Calls Tryz.prog 24 #[.slice ab n ca,.slice ae n ce] w fun e w'=>e= .returned (.bool true)/\Below w.heap.size w w':=by
 have HB:Hid (NatsAt w ab n a' gb ob bcs tb):=hna
 have HE:Hid (NatsAt w ae n a' ge oe ecs te):=hnb
 clear hna hnb
 go_enter Tryz.func24,Tryz.ntmps24
 have sb:=YN w
 iterate 2 go_step
 refine rp ?_;refine p_V (.bool false) (fun _=>rfl) ?_
 iterate 4 go_step
 refine r_p ?_;refine p_V _ (n_l ab n ca Zs) ?_;refine p_V _ (n_l ae n ce Zs) ?_;refine p_V _ (ZU .i64 _ _ _ _ rfl n n rfl rfl false (by rw[decide_eq_true rfl];rfl)) ?_
 iterate 8 go_step
 refine rp ?_;refine p_V (.int .i64 0) (fun _=>rfl) ?_
 go_wp2_with fail
 go_loopg [5] n (fun g s5 wr=> ∃i:Nat,i+g=n/\s5= .int .i64 i/\Below w.heap.size w wr)
 case atStart=>exact⟨0,by omega,rfl,sb⟩
 case round=>
  clear sb
  obtain⟨i,hi,rfl,sb⟩:=hrel
  cases gk with
  |zero=>
   obtain rfl:i=n:=by omega
   clear hi
   iterate 2 go_step
   refine r_p ?_;refine p_V _ (n_l ab i ca Zs) ?_;refine p_V _ (Xf i i) ?_
   iterate 7 go_step
   refine rp ?_;refine p_V (.bool true) (fun _=>rfl) ?_
   go_wp2
   go_ret
   exact⟨rfl,sb⟩
  |succ g=>
   have hlt:i<n:=by omega
   iterate 2 go_step
   refine r_p ?_;refine p_V _ (n_l ab n ca Zs) ?_;refine p_V _ (XC i n) ?_
   obtain h0|⟨rfl,rB,hbt⟩:=(HB.out.below sb).at'
   ·exact absurd h0 (by omega)
   obtain h0|⟨rfl,rE,het⟩:=(HE.out.below sb).at'
   ·exact absurd h0 (by omega)
   have hbt':=hbt i hlt
   have het':=het i hlt
   clear hbt het
   iterate 9 go_step
   refine Zv (by kernel_rfl) (by kernel_rfl) ?_;refine q_W ?_;refine q_x i hlt Tryz.underlying33 ZA ?_;refine q_W ?_
   refine W3 (by rfl) 62 _ rfl _ (ob+i*4) rfl rB (Zc (a' i)) hbt' _ Tryz.underlying62 rfl Zb (q_W ?_)
   refine q_x i hlt Tryz.underlying33 ZA ?_;refine q_W ?_
   refine W3 (by rfl) 62 _ rfl _ (oe+i*4) rfl rE (Zc (a' i)) het' _ Tryz.underlying62 rfl Zb (q_W ?_)
   refine q_V (.bool false) ((fun w'=>(Z3 _ _ _ rfl (a' i) (a' i) rfl rfl w').trans (by rw[QC]))) ?_;intro w6 hqb;replace sb:=b_o sb hqb;clear hqb;clear rB rE hbt' het'
   iterate 6 go_step
   refine r_p ?_;refine p_V _ (x_a i 1) ?_
   go_wp2
   go_roundg g
   ·exact⟨i+1,by omega,rfl,sb⟩
   omega
def th3 (A B C i:Nat):Nat:=if i=0 then A else if i=1 then B else C
def smQ (a0:Int):Nat:=lN (pk2 (pkB a0) otL leL) (3-2)
def smP (a0:Int):Nat:=lN (pk2 (pkB a0) otL leL) (3-1)
def smG (a0:Int):Nat:=pk2 (pkB a0) otG leG
theorem yI:smQ 0=1966023127/\smP 0=1055500680322183127/\smG 0=leG:=by
 have h:pkB 0=false:=by decide
 unfold smQ smP smG
 rw[h]
 exact⟨xL,xK,rfl⟩
instance:NeZero 1966023127:=⟨by decide⟩
set_option linter.unusedSectionVars false
section
variable {Q:Nat}[NeZero Q]
def yJ (w:World)(v:Value)(L:List (Fin Q)):Prop:= ∃ab c gb ob bcs tb,v= .slice ab L.length c/\L.length<=c/\NumsAt w ab L.length (fun i=>(pco L i).val) gb ob bcs tb
theorem yJ.below {w w':World}{v:Value}{L:List (Fin Q)}(h:yJ w v L)(hb:Below w.heap.size w w'):yJ w' v L:=by
 obtain⟨ab,c,gb,ob,bcs,tb,h1,h2,h3⟩:=h
 exact⟨ab,c,gb,ob,bcs,tb,h1,h2,h3.below hb⟩
end
def rEv (q:Nat)(u:Nat->Nat)(x:Nat):Nat->Nat×Nat
 |0=>(0,1)
 |k+1=>(((rEv q u x k).1+u k*(rEv q u x k).2%q)%q,(rEv q u x k).2*x%q)
def zZ (q m:Nat)(A B:Nat->Nat):Nat->Nat->Nat
 |0,_=>0
 |i+1,j=>if i<=j/\j<i+m then(zZ q m A B i j+A i*B (j-i)%q)%q else zZ q m A B i j
def rIn (q m:Nat)(A B:Nat->Nat)(i k j:Nat):Nat:=if i<=j/\j<i+k then(zZ q m A B i j+A i*B (j-i)%q)%q else zZ q m A B i j
section
variable {Q:Nat}[NeZero Q]
end