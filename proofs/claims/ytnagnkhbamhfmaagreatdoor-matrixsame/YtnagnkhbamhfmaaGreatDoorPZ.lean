import Derived.Test.YtnagnkhbamhfmaaGreatDoorPY
set_option maxRecDepth 100000
set_option maxHeartbeats 8000000
namespace Go.Proofs.YtnagnkhbamhfmaaGreatDoor
set_option linter.all false
open Go.RowKit
theorem VM (n ca ce:Nat)(ab ae:Option Addr)(a':Nat->Nat)(gb ob ge oe:Nat)(bcs ecs:Array Value)(tb te:TypeId)(w:World)(hn:n<9223372036854775808)(hna:NatsAt w ab n a' gb ob bcs tb)(hnb:NatsAt w ae n a' ge oe ecs te):
  Calls Tryz.prog 17 #[.slice ab n ca,.slice ae n ce] w fun e w'=>e= .returned (.bool true)/\Below w.heap.size w w':=by
 have HB:Hid (NatsAt w ab n a' gb ob bcs tb):=hna;have HE:Hid (NatsAt w ae n a' ge oe ecs te):=hnb;clear hna hnb
 go_enter Tryz.func17,Tryz.ntmps17
 have sb:=YN w;iterate 2 go_step
 refine rp ?_;refine p_v (.bool false) (fun _=>rfl) (Zb ?_);simp only[pv];iterate 4 go_step
 refine rp ?_;refine p_m ?_;simp only[pv];refine p_v _ (n_l ab n ca Zr) ?_;refine p_m ?_;simp only[pv];refine p_v _ (n_l ae n ce Zr) ?_;simp only[pv];refine p_v _ (ZO .i64 _ _ _ _ rfl n n rfl rfl false (by rw[decide_eq_true rfl];rfl)) (Zb ?_);simp only[pv];iterate 8 go_step
 refine rp ?_;refine p_v (.int .i64 0) (fun _=>rfl) (Zb ?_);simp only[pv]
 go_wp2_with fail
 go_loopg [5] n (fun g s5 wr=> ∃i:Nat,i+g=n/\s5= .int .i64 i/\Below w.heap.size w wr)
 case atStart=>exact⟨0,by omega,rfl,sb⟩
 case round=>
  clear sb;obtain⟨i,hi,rfl,sb⟩:=hrel
  cases gk with
  |zero=>
   obtain rfl:i=n:=by omega
   clear hi;iterate 2 go_step
   refine rp ?_;refine p_m ?_;refine p_m ?_;simp only[pv];refine p_v _ (n_l ab i ca Zr) ?_;refine p_v _ (XC i i) (Zb ?_);simp only[pv];iterate 7 go_step
   refine rp ?_;refine p_v (.bool true) (fun _=>rfl) (Zb ?_);simp only[pv];go_wp2;go_ret;exact⟨rfl,sb⟩
  |succ g=>
   have hlt:i<n:=by omega
   iterate 2 go_step
   refine rp ?_;refine p_m ?_;refine p_m ?_;simp only[pv];refine p_v _ (n_l ab n ca Zr) ?_;refine p_v _ (XV i n) (Zb ?_);simp only[pv];obtain h0|⟨rfl,rB,hbt⟩:=(HB.out.below sb).at'
   ·exact absurd h0 (by omega)
   obtain h0|⟨rfl,rE,het⟩:=(HE.out.below sb).at'
   ·exact absurd h0 (by omega)
   have hbt':=hbt i hlt;have het':=het i hlt;clear hbt het;iterate 9 go_step
   refine ZC (by kernel_rfl) (by kernel_rfl) ?_;refine q_m ?_;refine q_m ?_;simp only[pv];refine q_x i hlt Tryz.underlying22 Zz ?_;simp only[pv];refine X5 (by rfl) 57 _ rfl _ (ob+i*4) rfl rB (Zd (a' i)) hbt' _ Tryz.underlying57 rfl Zc ?_;refine q_m ?_;refine q_m ?_;simp only[pv];refine q_x i hlt Tryz.underlying22 Zz ?_;simp only[pv];refine X5 (by rfl) 57 _ rfl _ (oe+i*4) rfl rE (Zd (a' i)) het' _ Tryz.underlying57 rfl Zc ?_;simp only[pv];refine q_v (.bool false) ((fun w'=>(ZT _ _ _ rfl (a' i) (a' i) rfl rfl w').trans (by rw[RY]))) ?_;simp only[pv];refine ZN ?_;intro w6 hqb;replace sb:=b_o sb hqb;clear hqb;clear rB rE hbt' het';iterate 6 go_step
   refine rp ?_;refine p_m ?_;simp only[pv];refine p_v _ (x_a i 1) ?_;refine p_a (Zb ?_);simp only[pv];go_wp2
   go_roundg g
   case measure=>omega
   case rel=>exact⟨i+1,by omega,rfl,sb⟩
def th3 (A B C i:Nat):Nat:=if i=0 then A else if i=1 then B else C
def smQ (a0:Int):Nat:=lN (pk2 (pkB a0) otL leL) (3-2)
def smP (a0:Int):Nat:=lN (pk2 (pkB a0) otL leL) (3-1)
def smG (a0:Int):Nat:=pk2 (pkB a0) otG leG
theorem ze:smQ 0=1966023127/\smP 0=1055500680322183127/\smG 0=leG:=by
 have h:pkB 0=false:=by decide
 unfold smQ smP smG;rw[h];exact⟨yz,yx,rfl⟩
instance:NeZero 1966023127:=⟨by decide⟩
section
variable {Q:Nat}[NeZero Q]
def zf (w:World)(v:Value)(L:List (Fin Q)):Prop:= ∃ab c gb ob bcs tb,v= .slice ab L.length c/\L.length<=c/\NumsAt w ab L.length (fun i=>(pco L i).val) gb ob bcs tb
theorem zf.below {w w':World}{v:Value}{L:List (Fin Q)}(h:zf w v L)(hb:Below w.heap.size w w'):zf w' v L:=by
 obtain⟨ab,c,gb,ob,bcs,tb,h1,h2,h3⟩:=h;exact⟨ab,c,gb,ob,bcs,tb,h1,h2,h3.below hb⟩
end
def rEv (q:Nat)(u:Nat->Nat)(x:Nat):Nat->Nat×Nat
 |0=>(0,1)
 |k+1=>(((rEv q u x k).1+u k*(rEv q u x k).2%q)%q,(rEv q u x k).2*x%q)
def AI (q m:Nat)(A B:Nat->Nat):Nat->Nat->Nat
 |0,_=>0
 |i+1,j=>if i<=j/\j<i+m then(AI q m A B i j+A i*B (j-i)%q)%q else AI q m A B i j
def rIn (q m:Nat)(A B:Nat->Nat)(i k j:Nat):Nat:=if i<=j/\j<i+k then(AI q m A B i j+A i*B (j-i)%q)%q else AI q m A B i j
section
variable {Q:Nat}[NeZero Q]
end
end Go.Proofs.YtnagnkhbamhfmaaGreatDoor
