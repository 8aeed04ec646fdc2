import Derived.Test.YtcdahmommonnfaaGreatDoorXStVou
import Derived.Test.YtcdahmommonnfaaGreatDoorMB
import Derived.Test.YtcdahmommonnfaaGreatDoorTB
set_option maxRecDepth 100000
set_option maxHeartbeats 8000000
namespace Go.Proofs.YtcdahmommonnfaaGreatDoor
set_option linter.all false
open Go.RowKit
open Go.Proofs.Tryz
def wtC (a:Int)(gp:Value)(T cl op:Int)(key:List UInt8)(nm:Value)(tl:Nat->Int)(an:Nat->Bool)(sq sc:Int)(mx ps:Value):Array Value:=#[.int .i64 a,gp,.int .i64 T,.int .i64 cl,.int .i64 op,.string ⟨key.toArray⟩,nm,.int .i64 (tl 0),.int .i64 (tl 1),.int .i64 (tl 2),.int .i64 (tl 3),.int .i64 (tl 4),.int .i64 (tl 5),.int .i64 (tl 6),.bool (an 0),.bool (an 1),.bool (an 2),.bool (an 3),.bool (an 4),.bool (an 5),.bool (an 6),.int .i64 sq,.int .i64 sc,mx,ps]
section
variable {a:Int}{gp:Value}{T cl op:Int}{key:List UInt8}{nm:Value}{tl:Nat->Int}{an:Nat->Bool}{sq sc:Int}{mx ps:Value}
theorem WS:(wtC a gp T cl op key nm tl an sq sc mx ps).size=25:=rfl
theorem Tn (i:Nat)(h:i<7):(wtC a gp T cl op key nm tl an sq sc mx ps)[7+i*1]?=some (.int .i64 (tl i)):=by
 match i,h with
 |0,_=>exact rfl
 |1,_=>exact rfl
 |2,_=>exact rfl
 |3,_=>exact rfl
 |4,_=>exact rfl
 |5,_=>exact rfl
 |6,_=>exact rfl
theorem Ca (i:Nat)(h:i<7):(wtC a gp T cl op key nm tl an sq sc mx ps)[14+i*1]?=some (.bool (an i)):=by
 match i,h with
 |0,_=>exact rfl
 |1,_=>exact rfl
 |2,_=>exact rfl
 |3,_=>exact rfl
 |4,_=>exact rfl
 |5,_=>exact rfl
 |6,_=>exact rfl
theorem Sb (i:Nat)(h:i<7)(z:Int):(wtC a gp T cl op key nm tl an sq sc mx ps).setIfInBounds (7+i*1) (.int .i64 z)=wtC a gp T cl op key nm (fun j=>if j=i then z else tl j) an sq sc mx ps:=by
 match i,h with
 |0,_=>exact rfl
 |1,_=>exact rfl
 |2,_=>exact rfl
 |3,_=>exact rfl
 |4,_=>exact rfl
 |5,_=>exact rfl
 |6,_=>exact rfl
theorem LH (i:Nat)(h:i<7):(wtC a gp T cl op key nm tl an sq sc mx ps).setIfInBounds (14+i*1) (.bool true)=wtC a gp T cl op key nm tl (fun j=>if j=i then true else an j) sq sc mx ps:=by
 match i,h with
 |0,_=>exact rfl
 |1,_=>exact rfl
 |2,_=>exact rfl
 |3,_=>exact rfl
 |4,_=>exact rfl
 |5,_=>exact rfl
 |6,_=>exact rfl
theorem PZ: ∀j v,(tsC sq sc).toList[j]?=some v->(wtC a gp T cl op key nm tl an sq sc mx ps)[21+j]?=some v:=by
 intro j v hv
 match j,hv with
 |0,hv=>exact hv
 |1,hv=>exact hv
end
theorem QF (a:Int)(gp:Value)(T cl op:Int)(key:List UInt8)(nm:Value)(tl tl':Nat->Int)(an an':Nat->Bool)(sq sc:Int)(mx ps:Value)(h: ∀i,i<7->tl i=tl' i)(h': ∀i,i<7->an i=an' i):wtC a gp T cl op key nm tl an sq sc mx ps=wtC a gp T cl op key nm tl' an' sq sc mx ps:=by
 unfold wtC;rw[h 0 (by decide),h 1 (by decide),h 2 (by decide),h 3 (by decide),h 4 (by decide),h 5 (by decide),h 6 (by decide),h' 0 (by decide),h' 1 (by decide),h' 2 (by decide),h' 3 (by decide),h' 4 (by decide),h' 5 (by decide),h' 6 (by decide)]
theorem LI:prog.built 99 []=some (wtC 0 (.pointer none) 0 0 0 [] (.slice none 0 0) (fun _=>0) (fun _=>false) 0 0 (.slice none 0 0) (.slice none 0 0)):=by kernel_rfl
theorem IA (a T cl op:Int)(gp:Option Addr)(key:List UInt8)(a1:Option Addr)(n1 c1:Nat):prog.built 99 [(0,.int .i64 a),(1,.pointer gp),(2,.int .i64 T),(3,.int .i64 cl),(4,.int .i64 op),(5,.string ⟨key.toArray⟩),(6,.slice a1 n1 c1)]=some (wtC a (.pointer gp) T cl op key (.slice a1 n1 c1) (fun _=>0) (fun _=>false) 0 0 (.slice none 0 0) (.slice none 0 0)):=by kernel_rfl
def ouC (to' kd op:Int)(key:List UInt8)(sq cl:Int)(dg:List UInt8)(a1:Option Addr)(n c1:Nat)(a2:Option Addr)(m c2:Nat):Array Value:=#[.int .i64 to',.int .i64 kd,.int .i64 op,.string ⟨key.toArray⟩,.int .i64 sq,.int .i64 cl,.string ⟨dg.toArray⟩,.slice a1 n c1,.slice a2 m c2]
theorem Hy (to' kd op:Int)(key:List UInt8)(sq cl:Int)(dg:List UInt8)(a1:Option Addr)(n c1:Nat)(a2:Option Addr)(m c2:Nat):(ouC to' kd op key sq cl dg a1 n c1 a2 m c2).all (·.oneCell')=true:=by simp[ouC,Value.oneCell']
theorem LJ:(prog.info? 82).map (fun i=>(i.zero,i.size))=some (some (.agg (ouC 0 0 0 [] 0 0 [] none 0 0 none 0 0)),9):=by kernel_rfl
theorem QG (w:World):(zeroValue 82).run prog w= .ok (.agg (ouC 0 0 0 [] 0 0 [] none 0 0 none 0 0)) w:=(zero_of_info LJ).1 w
theorem XR:(prog.info? 82).map (·.size)=some 9:=(zero_of_info LJ).2
theorem IC (z kd op:Int)(key:List UInt8)(sq cl:Int)(dg:List UInt8)(a1:Option Addr)(n c1:Nat)(a2:Option Addr)(m c2:Nat):prog.built 82 [(0,.int .i64 z),(1,.agg (msC kd op key sq cl dg a1 n c1 a2 m c2))]=some (ouC z kd op key sq cl dg a1 n c1 a2 m c2):=by kernel_rfl
theorem LL (kd:Int):prog.built 56 [(0,.int .i64 kd)]=some (msC kd 0 [] 0 0 [] none 0 0 none 0 0):=by kernel_rfl
theorem LM (kd sq cl:Int)(a1:Option Addr)(n c1:Nat)(a2:Option Addr)(m c2:Nat):prog.built 56 [(0,.int .i64 kd),(3,.agg (tsC sq cl)),(5,.slice a1 n c1),(6,.slice a2 m c2)]=some (msC kd 0 [] sq cl [] a1 n c1 a2 m c2):=by kernel_rfl
def upB (n m:Int):Bool:=decide (1<=n)&&decide (n<=m)
theorem XS (n m:Int)(w:World):
  Calls prog 44 #[.int .i64 n,.int .i64 m] w fun e w'=>e= .returned (.bool (upB n m))/\Below w.heap.size w w':=by
 by_cases h1:1<=n
 rotate_left
 ·rw[show upB n m=false from by unfold upB;rw[decide_eq_false h1];rfl]
  go_enter func44,ntmps44
  have sb:=Z9 w;iterate 2 go_step
  refine rp ?_;refine p_v (.bool false) (fun _=>rfl) (Za ?_);simp only[pv];iterate 3 go_step
  refine rp ?_;refine p_m ?_;simp only[pv];refine p_v _ (ZG _ _ _ _ rfl (n) (1) rfl rfl false (decide_eq_false (by omega))) ?_;refine p_m ?_;refine p_s ?_;refine p_s ?_;refine p_s ?_;simp only[pv];refine p_k false (.bool false) ?_;refine p_a (Za ?_);simp only[pv];go_wp2;go_ret;exact⟨rfl,sb⟩
 by_cases h2:n<=m
 ·rw[show upB n m=true from by unfold upB;rw[decide_eq_true h1,decide_eq_true h2];rfl]
  go_enter func44,ntmps44
  have sb:=Z9 w;iterate 2 go_step
  refine rp ?_;refine p_v (.bool false) (fun _=>rfl) (Za ?_);simp only[pv];iterate 3 go_step
  refine rp ?_;refine p_m ?_;simp only[pv];refine p_v _ (ZG _ _ _ _ rfl (n) (1) rfl rfl true (decide_eq_true (by omega))) ?_;refine p_m ?_;refine p_m ?_;refine p_m ?_;simp only[pv];refine p_v _ (Yb _ _ _ _ rfl (n) (m) rfl rfl true (decide_eq_true (by omega))) ?_;refine p_k true (.bool true) ?_;refine p_a (Za ?_);simp only[pv];go_wp2;go_ret;exact⟨rfl,sb⟩
 ·rw[show upB n m=false from by unfold upB;rw[decide_eq_false h2,Bool.and_false]]
  go_enter func44,ntmps44
  have sb:=Z9 w;iterate 2 go_step
  refine rp ?_;refine p_v (.bool false) (fun _=>rfl) (Za ?_);simp only[pv];iterate 3 go_step
  refine rp ?_;refine p_m ?_;simp only[pv];refine p_v _ (ZG _ _ _ _ rfl (n) (1) rfl rfl true (decide_eq_true (by omega))) ?_;refine p_m ?_;refine p_m ?_;refine p_m ?_;simp only[pv];refine p_v _ (Yb _ _ _ _ rfl (n) (m) rfl rfl false (decide_eq_false (by omega))) ?_;refine p_k true (.bool false) ?_;refine p_a (Za ?_);simp only[pv];go_wp2;go_ret;exact⟨rfl,sb⟩
theorem To:prog.underlying 27=some (.pointer (prog.pointee 27)):=by kernel_rfl
theorem F6 (w:World):
  Calls prog 50 #[.pointer none] w fun e w'=>e= .returned (.bool false)/\Below w.heap.size w w':=by
 go_enter func50,ntmps50
 have sb:=Z9 w;iterate 2 go_step
 refine rp ?_;refine p_v (.bool false) (fun _=>rfl) (Za ?_);simp only[pv];iterate 3 go_step
 refine rp ?_;refine p_m ?_;simp only[pv];refine p_v _ (YE _ _ _ _ rfl none rfl rfl To) ?_;refine p_m ?_;refine p_s ?_;refine p_s ?_;refine p_s ?_;simp only[pv];refine p_s ?_;refine p_s ?_;refine p_k false (.bool false) ?_;refine p_a (Za ?_);simp only[pv];go_wp2;go_ret;exact⟨rfl,sb⟩
theorem LN (p:Nat)(a:Int)(gp:Option Addr)(T:Nat)(cl op:Int)(key:List UInt8)(nm:Value)(tl:Nat->Int)(an:Nat->Bool)(sq sc:Int)(mx ps:Value)(w:World)(r1:Row w p (wtC a (.pointer gp) (T:Nat) cl op key nm tl an sq sc mx ps) 99):
  Calls prog 50 #[.pointer (some ⟨p,0,none⟩)] w fun e w'=>e= .returned (.bool (decide (0<a)))/\Below w.heap.size w w':=by
 go_enter func50,ntmps50
 have sb:=Z9 w;iterate 2 go_step
 refine rp ?_;refine p_v (.bool false) (fun _=>rfl) (Za ?_);simp only[pv];iterate 3 go_step
 refine rp ?_;refine p_m ?_;simp only[pv];refine p_v _ (YE _ _ _ _ rfl (some ⟨p,0,none⟩) rfl rfl To) ?_;refine p_m ?_;refine p_m ?_;simp only[pv];refine p_v (.pointer (some ⟨p,0,none⟩)) (Zl _ rfl p (0) rfl) ?_;simp only[pv];refine p_v _ (Zb 99 _ 0 rfl p (0) rfl _ underlying99 _ rfl 0 sizeOf3) ?_;simp only[pv];refine p_d 0 r1.r (.int .i64 (a)) rfl isAgg3 ?_;simp only[pv];refine p_v _ (Z4 _ _ _ _ rfl a 0 rfl rfl _ rfl) ?_;simp only[pv];refine NJ (by rfl) true (v:=.bool (decide (0<a))) rfl rfl rfl ?_;refine p_a (Za ?_);simp only[pv];go_wp2;go_ret;exact⟨rfl,sb⟩
theorem WL (p:Nat)(a:Int)(gp:Option Addr)(T:Nat)(cl op:Int)(key:List UInt8)(nm:Value)(tl:Nat->Int)(an:Nat->Bool)(sq sc:Int)(mx ps:Value)(w:World)(r1:Row w p (wtC a (.pointer gp) (T:Nat) cl op key nm tl an sq sc mx ps) 99)(ha:0<a):
  Calls prog 50 #[.pointer (some ⟨p,0,none⟩)] w (Rt (.bool true) w):=by
 have h:=LN p a gp T cl op key nm tl an sq sc mx ps w r1
 rwa [decide_eq_true ha]at h
theorem WM (p:Nat)(a:Int)(gp:Option Addr)(T:Nat)(cl op:Int)(key:List UInt8)(nm:Value)(tl:Nat->Int)(an:Nat->Bool)(sq sc:Int)(mx ps:Value)(w:World)(r1:Row w p (wtC a (.pointer gp) (T:Nat) cl op key nm tl an sq sc mx ps) 99)(hT:T<=2):
  Calls prog 53 #[.pointer (some ⟨p,0,none⟩)] w fun e w'=>e= .returned (.int .i64 ((3*T+1:Nat):Int))/\Below w.heap.size w w':=by
 go_enter func53,ntmps53
 have sb:=Z9 w;iterate 2 go_step
 refine rp ?_;refine p_v (.int .i64 0) (fun _=>rfl) (Za ?_);simp only[pv];iterate 3 go_step
 refine rp ?_;refine p_m ?_;simp only[pv];refine p_v (.pointer (some ⟨p,0,none⟩)) (Zl _ rfl p (0) rfl) ?_;simp only[pv];refine p_v _ (Zb 99 _ 2 rfl p (0) rfl _ underlying99 _ rfl 0 sizeOf3) ?_;simp only[pv];refine p_d 2 r1.r (.int .i64 ((T:Nat))) rfl isAgg3 ?_;simp only[pv];refine p_v _ (Z6 _ _ _ _ rfl 3 T (3*T) rfl rfl rfl (by omega)) ?_;simp only[pv];refine p_v _ (x_a (3*T) 1) ?_;refine p_a (Za ?_);simp only[pv];go_wp2;go_ret;exact⟨rfl,sb⟩
theorem LO (p:Nat)(a:Int)(gp:Option Addr)(T:Nat)(cl op:Int)(key:List UInt8)(nm:Value)(tl:Nat->Int)(an:Nat->Bool)(sq sc:Int)(mx ps:Value)(w:World)(r1:Row w p (wtC a (.pointer gp) (T:Nat) cl op key nm tl an sq sc mx ps) 99)(hT:T<=2):
  Calls prog 99 #[.pointer (some ⟨p,0,none⟩)] w fun e w'=>e= .returned (.int .i64 ((2*T+1:Nat):Int))/\Below w.heap.size w w':=by
 go_enter func99,ntmps99
 have sb:=Z9 w;iterate 2 go_step
 refine rp ?_;refine p_v (.int .i64 0) (fun _=>rfl) (Za ?_);simp only[pv];iterate 3 go_step
 refine rp ?_;refine p_m ?_;simp only[pv];refine p_v (.pointer (some ⟨p,0,none⟩)) (Zl _ rfl p (0) rfl) ?_;simp only[pv];refine p_v _ (Zb 99 _ 2 rfl p (0) rfl _ underlying99 _ rfl 0 sizeOf3) ?_;simp only[pv];refine p_d 2 r1.r (.int .i64 ((T:Nat))) rfl isAgg3 ?_;simp only[pv];refine p_v _ (Z6 _ _ _ _ rfl 2 T (2*T) rfl rfl rfl (by omega)) ?_;simp only[pv];refine p_v _ (x_a (2*T) 1) ?_;refine p_a (Za ?_);simp only[pv];go_wp2;go_ret;exact⟨rfl,sb⟩
def OO (kd op:Int)(key:List UInt8)(E:Nat->Array Value)(n:Nat):Prop:=
 ∀i,i<n-> ∃sq sc a1 n1 c1 a2 n2 c2,E i=ouC ((i+1:Nat):Int) kd op key sq sc [] a1 n1 c1 a2 n2 c2
def Vy (w:World)(base n:Nat)(kd op:Int)(key:List UInt8)(g:Nat):Prop:=
 base<=g/\ ∃E:Nat->Array Value,(∀i,(E i).size=9)/\Row w g (esC 9 n E) 82/\OO kd op key E n
theorem Vy.on {w w2:World}{base n:Nat}{kd op:Int}{key:List UInt8}{g:Nat}(h:Vy w base n kd op key g){S:List Nat}(k:Kept S w w2)(hg:g∉S):Vy w2 base n kd op key g:=by
 obtain⟨h1,E,h2,h3,h4⟩:=h;exact⟨h1,E,h2,k.row h3 hg,h4⟩
theorem Vy.down {w:World}{base b2 n:Nat}{kd op:Int}{key:List UInt8}{g:Nat}(h:Vy w base n kd op key g)(hb:b2<=base):Vy w b2 n kd op key g:=⟨Nat.le_trans hb h.1,h.2⟩
theorem Xk:prog.underlying 48=some (.slice (prog.elem 48)):=by kernel_rfl
theorem ID: ∃i,prog.info? 82=some i/\i.zero=some (.agg (ouC 0 0 0 [] 0 0 [] none 0 0 none 0 0))/\i.size=9/\i.bytes=120:=by
 have h:(prog.info? 82).map (fun i=>(i.zero,i.size,i.bytes))=some (some (.agg (ouC 0 0 0 [] 0 0 [] none 0 0 none 0 0)),9,120):=by kernel_rfl
 cases e:prog.info? 82 with
 |none=>rw[e]at h;cases h
 |some i=>rw[e]at h;simp at h;exact⟨i,rfl,h.1,h.2.1,h.2.2⟩
theorem F7 (z kd:Int)(b:Nat)(w:World)(r1:Row w b #[.int .i64 kd] 3):
  Calls prog 92 #[.int .i64 z,.pointer (some ⟨b,0,none⟩)] w fun e w'=>e= .returned (.agg (msC kd 0 [] 0 0 [] none 0 0 none 0 0))/\Below w.heap.size w w':=by
 go_enter func92,ntmps92
 have sb:=Z9 w;iterate 2 go_step
 refine rp ?_;refine ZJ (by rfl) 56 rfl _ Wu ?_;intro g3 z0 n0 r3 k;simp only[pv];have d1x3:=l_l r1.lt n0;have b3:=Nat.le_trans sb.size n0;clear n0;replace r1:=k.ro r1;replace sb:=kk sb k;clear k;refine Za ?_;iterate 3 go_step
 refine rp ?_;refine p_d 0 r1.r (.int .i64 (kd)) rfl isAgg3 ?_;simp only[pv];refine p_v _ (Zm _ [(0,_)] rfl [(0,.int .i64 kd)] rfl _ (LL kd)) ?_;simp only[pv];refine Z0 (by rfl) 56 _ _ rfl _ rfl r3 (msC kd 0 [] 0 0 [] none 0 0 none 0 0) rfl (by exact ZP) (by rfl) (Vw _ _ _ _ _ _ _ _ _ _ _ _) ?_;clear r3;intro z1002 r3 k;simp only[Act.put];replace r1:=k.ro r1;replace sb:=kk sb k;clear k;refine Za ?_;go_wp2;exact YP rfl _ rfl r3 _ underlying56 (by exact ZP) rfl ⟨rfl,sb⟩
def ouz:Array Value:=ouC 0 0 0 [] 0 0 [] none 0 0 none 0 0
def upE (E:Nat->Array Value)(k:Nat)(x:Array Value):Nat->Array Value:=fun j=>if j=k then x else E j
theorem Sc {E:Nat->Array Value}(k:Nat){x:Array Value}(h: ∀i,(E i).size=9)(hx:x.size=9): ∀i,(upE E k x i).size=9:=fun i=>by
 unfold upE
 split
 ·exact hx
 ·exact h i
theorem LP {E:Nat->Array Value}{n:Nat}(k:Nat){x:Array Value}(h: ∀i,(E i).size=9)(hx:x.size=9)(hk:k<n):Sn (esC 9 n E) (0+k*9) x.toList=esC 9 n (upE E k x):=by
 have:=M0 (k:=9) (n:=n) (C:=E) (D:=upE E k x) h (Sc k h hx) k hk (0+k*9) (by omega) (fun j hj hne=>if_neg hne);rw[show upE E k x k=x from if_pos rfl]at this;exact this
theorem LQ (p:Nat)(a:Int)(gp:Option Addr)(T:Nat)(cl op:Int)(key:List UInt8)(nm:Value)(tl:Nat->Int)(an:Nat->Bool)(sq sc:Int)(mx ps:Value)(f:FuncId)(caps:Array Value){fn:Func}(kd:Int)(w:World)(r1:Row w p (wtC a (.pointer gp) (T:Nat) cl op key nm tl an sq sc mx ps) 99)(hT:T<=2)(hf:prog.funcs[f]?=some fn)(hfb:(fn.name== "runtime.NumGoroutine" ||fn.body.isNone)=false)
  (hc: ∀(k:Nat) w',k<3*T+1->Below w.heap.size w w'->Calls prog f (#[.int .i64 ((k+1:Nat):Int)]++caps) w' fun e w2=> ∃sq sc a1 n1 c1 a2 n2 c2,e= .returned (.agg (msC kd 0 [] sq sc [] a1 n1 c1 a2 n2 c2))/\Below w'.heap.size w' w2):
  Calls prog 91 #[.pointer (some ⟨p,0,none⟩),.func (.func f) #[] caps] w fun e w'=> ∃g,e= .returned (.slice (some ⟨g,0,none⟩) (3*T+1) (3*T+1))/\Vy w' w.heap.size (3*T+1) kd op key g/\Below w.heap.size w w':=by
 have hsv:=fun w' (q:Row w' p (wtC a (.pointer gp) (T:Nat) cl op key nm tl an sq sc mx ps) 99)=>WM p a gp T cl op key nm tl an sq sc mx ps w' q hT
 have hN:3*T+1<=7:=by omega
 generalize 3*T+1=n at*;obtain⟨ip,hip,hzp,hszp,hbyp⟩:=ID
 go_enter func91,ntmps91
 have sb:=Z9 w;iterate 2 go_step
 refine rp ?_;refine p_v (.slice none 0 0) (fun _=>rfl) (Za ?_);simp only[pv];iterate 3 go_step
 refine rp ?_;refine p_m ?_;simp only[pv];refine p_f 53 func53 #[.pointer (some ⟨p,0,none⟩)] (hsv _ r1) ?_;rintro _ z1001 ⟨rfl,hb⟩;refine⟨_,rfl,?_⟩;simp only[pv];have k:=Kept.ofBelow hb;clear hb;replace r1:=k.ro r1;replace sb:=kk sb k;clear k;refine Wn (by rfl) 48 82 _ _ rfl ip _ underlying48 hip hzp n rfl rfl (by rw[hszp];omega) (by rw[hbyp];omega) (by omega) ?_;intro gO z1002 n0 rO k;simp only[pv];have d1xO:=l_l r1.lt n0;have bO:=Nat.le_trans sb.size n0;clear n0;replace r1:=k.ro r1;replace sb:=kk sb k;clear k;refine p_a (Za ?_);simp only[pv];have hgO:w.heap.size<=gO:=by omega
 rw[hszp,PF (k:=9) _ rfl]at rO;iterate 4 go_step
 refine rp ?_;refine p_m ?_;simp only[pv];refine p_v _ (n_l (some ⟨gO,0,none⟩) n n Xk) ?_;refine p_v (.int .i64 0) (fun _=>rfl) (Za ?_);simp only[pv]
 go_wp2_with fail
 go_loopg [6,7,13] n (fun x s6 s7 s13 wr=> ∃(k:Nat) (E:Nat->Array Value),k+x=n/\s13= .int .i64 k/\(∀i,(E i).size=9)/\Row wr gO (esC 9 n E) 82/\OO kd op key E k/\Row wr p (wtC a (.pointer gp) (T:Nat) cl op key nm tl an sq sc mx ps) 99/\Below w.heap.size w wr)
 case atStart=>exact⟨0,fun _=>ouz,by omega,rfl,fun _=>rfl,rO,fun i hi=>absurd hi (Nat.not_lt_zero i),r1,sb⟩
 case round=>
  clear sb r1 rO;obtain⟨k,E,hk,rfl,hE,rO,hO,r1,sb⟩:=hrel
  cases gk with
  |zero=>
   obtain rfl:k=n:=by omega
   clear hk
   go_step
   refine rp ?_;refine p_v _ (Xy ((k:Nat)) ((k:Nat))) (Za ?_);simp only[pv];iterate 8 go_step
   refine rp ?_;refine p_m ?_;refine p_a (Za ?_);simp only[pv];go_wp2;go_ret;exact⟨_,rfl,⟨hgO,E,hE,rO,hO⟩,sb⟩
  |succ y=>
   have hlt:k<n:=by omega
   go_step
   refine rp ?_;refine p_v _ (XK ((k:Nat)) ((n:Nat))) (Za ?_);simp only[pv];iterate 10 go_step
   refine rp ?_;refine p_m ?_;refine p_a (Za ?_);simp only[pv];iterate 3 go_step
   refine rp ?_;refine p_m ?_;refine p_m ?_;simp only[pv];refine p_v _ (x_a k 1) ?_;simp only[pv];refine WJ (by rfl) f _ _ _ rfl caps rfl hf hfb #[.int .i64 ((k+1:Nat):Int)] rfl (hc k _ hlt sb) ?_;rintro _ z5003 ⟨sq',sc',a1,n1,c1,a2,n2,c2,rfl,hb⟩;refine⟨_,rfl,?_⟩;simp only[pv];replace r1:=r1.belowAll hb;replace rO:=rO.belowAll hb;replace sb:=sb.trans ((Kept.ofBelow hb).below w.heap.size sb.size (by simp));clear hb;refine ZJ (by rfl) 56 rfl _ Wu ?_;intro g7 z5004 n0 r7 k;simp only[pv];have d1x7:=l_l r1.lt n0;have dOx7:=l_l rO.lt n0;have b7:=Nat.le_trans sb.size n0;clear n0;replace r1:=k.ro r1;replace rO:=k.ro rO;replace sb:=kk sb k;clear k;refine Z0 (by rfl) 56 _ _ rfl _ rfl r7 (msC kd 0 [] sq' sc' [] a1 n1 c1 a2 n2 c2) rfl (by exact ZP) (by rfl) (Vw _ _ _ _ _ _ _ _ _ _ _ _) ?_;clear r7;intro z5005 r7 k;simp only[Act.put];replace r1:=k.ro r1;replace rO:=k.ro rO;replace sb:=kk sb k;clear k;refine Za ?_
   have h7p:p∉[g7]:=by have:=r1.lt;simp;omega
   have h7O:gO∉[g7]:=by have:=rO.lt;simp;omega
   have ck:=Kept.refl [g7] z5005;iterate 3 go_step
   refine Xv (by kernel_rfl) (fun z=>Kept [g7] z5005 z) (fun _ _ u1 u2=>u1.on u2) ck [11] [(0,false),(1,false),(2,false),(3,false),(4,false),(5,false),(6,false),(7,false),(8,false),(9,true),(10,false),(11,true)] ?_ (by kernel_rfl);refine e_m ?_;simp only[pv];refine e_v (.pointer (some ⟨p,0,none⟩)) (Zl _ rfl p (0) rfl) ?_;simp only[pv];refine e_v (.pointer (some ⟨p,4,none⟩)) (Zb 99 _ 4 rfl p (0) rfl _ underlying99 _ rfl 0 sizeOf3) ?_;simp only[pv];refine Yh (by rfl) 3 _ rfl _ (4) rfl (fun _ hb=>(hb.row r1 h7p).r) (.int .i64 (op)) (rfl) isAgg3 ?_;refine e_m ?_;simp only[pv];refine e_v (.pointer (some ⟨p,0,none⟩)) (Zl _ rfl p (0) rfl) ?_;simp only[pv];refine e_v (.pointer (some ⟨p,5,none⟩)) (Zb 99 _ 5 rfl p (0) rfl _ underlying99 _ rfl 0 sizeOf9) ?_;simp only[pv];refine Yh (by rfl) 9 _ rfl _ (5) rfl (fun _ hb=>(hb.row r1 h7p).r) (.string ⟨(key).toArray⟩) (rfl) isAgg9 ?_;simp only[pv];refine e_v (.pointer (some ⟨g7,1,none⟩)) (Zb 56 _ 1 rfl g7 (0) rfl _ underlying56 _ rfl 0 sizeOf3) ?_;simp only[pv];refine Wr (by rfl) 3 _ _ rfl _ 1 rfl r7 (.int .i64 op) rfl rfl rfl Yw (by exact(by decide:1<8)) (msC kd op [] sq' sc' [] a1 n1 c1 a2 n2 c2) rfl ?_;intro wa1 hq1 wb1 rr1 k1;replace ck:=(ck.on hq1).trans k1 (fun g hg=>.inl hg);refine⟨fun _=>ck,?_⟩;simp only[Act.put];refine e_v (.pointer (some ⟨g7,2,none⟩)) (Zb 56 _ 2 rfl g7 (0) rfl _ underlying56 _ rfl 0 sizeOf9) ?_;simp only[pv];refine Wr (by rfl) 9 _ _ rfl _ 2 rfl rr1 (.string ⟨key.toArray⟩) rfl rfl rfl Xx (by exact(by decide:2<8)) (msC kd op key sq' sc' [] a1 n1 c1 a2 n2 c2) rfl ?_;intro wa2 hq2 wb2 rr2 k2;refine⟨fun h=>(by cases h),?_⟩;simp only[Act.put];refine XY ?_;intro wz hqz;have kk:Kept [g7] z5005 wz:=((ck.on hq2).trans k2 (fun g hg=>.inl hg)).on hqz;replace r1:=kk.row r1 h7p;replace rO:=kk.row rO h7O;have r7z:=rr2.belowAll hqz;have hg7:w.heap.size<=g7:=b7;replace sb:=sb.trans (kk.below w.heap.size sb.size (by simp;omega));clear ck;have hgO7:gO≠g7:=by simpa using h7O
   iterate 2 go_step
   refine rp ?_;refine p_m ?_;refine p_m ?_;refine p_m ?_;simp only[pv];refine p_v _ (x_a k 1) ?_;simp only[pv];refine Zf (by rfl) 56 _ rfl _ (0) rfl r7z.r (msC kd op key sq' sc' [] a1 n1 c1 a2 n2 c2) (Zu _) _ underlying56 rfl ZP ?_;simp only[pv];refine p_v _ (Zm _ [(0,_),(1,_)] rfl [(0,.int .i64 ((k+1:Nat):Int)),(1,.agg (msC kd op key sq' sc' [] a1 n1 c1 a2 n2 c2))] rfl _ (IC _ _ _ _ _ _ _ _ _ _ _ _ _)) ?_;simp only[pv];refine p_x k hlt underlying48 sizeOf82 ?_;simp only[pv];refine X2 (by rfl) 82 _ _ rfl _ (0+k*9) rfl rO (ouC ((k+1:Nat):Int) kd op key sq' sc' [] a1 n1 c1 a2 n2 c2) rfl (by exact XR) (by rw[Y1];show 0+k*9+9<=n*9;omega) (Hy _ _ _ _ _ _ _ _ _ _ _ _ _) (esC 9 n (upE E k (ouC ((k+1:Nat):Int) kd op key sq' sc' [] a1 n1 c1 a2 n2 c2))) (LP k hE rfl hlt) ?_;clear rO;intro z7008 rO k3;simp only[Act.put];replace r1:=k3.row r1 (by have:=rO.lt;have:=r1.lt;simp;intro e;subst e;omega);replace sb:=sb.trans (k3.below w.heap.size sb.size (by simp;omega));clear k3;refine Za ?_;iterate 2 go_step
   refine rp ?_;refine p_v _ (x_a k 1) ?_;refine p_m (Za ?_);simp only[pv];go_wp2
   go_roundg y
   case measure=>omega
   case rel=>
    refine⟨k+1,upE E k (ouC ((k+1:Nat):Int) kd op key sq' sc' [] a1 n1 c1 a2 n2 c2),by omega,rfl,Sc k hE rfl,rO,fun i hi=>?_,r1,sb⟩;by_cases e:i=k
    ·subst e;exact⟨_,_,_,_,_,_,_,_,if_pos rfl⟩
    ·rw[show upE E k (ouC ((k+1:Nat):Int) kd op key sq' sc' [] a1 n1 c1 a2 n2 c2) i=E i from if_neg e];exact hO i (by omega)
theorem LR (p:Nat)(a:Int)(gp:Option Addr)(T:Nat)(cl op:Int)(key:List UInt8)(nm:Value)(tl:Nat->Int)(an:Nat->Bool)(sq sc:Int)(mx ps:Value)(kd:Int)(w:World)(r1:Row w p (wtC a (.pointer gp) (T:Nat) cl op key nm tl an sq sc mx ps) 99)(hT:T<=2):
  Calls prog 51 #[.pointer (some ⟨p,0,none⟩),.int .i64 kd] w fun e w'=> ∃g,e= .returned (.slice (some ⟨g,0,none⟩) (3*T+1) (3*T+1))/\Vy w' w.heap.size (3*T+1) kd op key g/\Below w.heap.size w w':=by
 go_enter func51,ntmps51
 have sb:=Z9 w;iterate 2 go_step
 refine rp ?_;refine Y4 (by rfl) 3 _ rfl (.int .i64 kd) rfl rfl ?_;intro g3 z0 n0 r3 k;simp only[pv];have d1x3:=l_l r1.lt n0;have b3:=Nat.le_trans sb.size n0;clear n0;replace r1:=k.ro r1;replace sb:=kk sb k;clear k;refine p_v (.slice none 0 0) (fun _=>rfl) (Za ?_);simp only[pv];iterate 3 go_step
 refine rp ?_;refine p_m ?_;simp only[pv];refine p_v (.func (.func 92) #[] #[.pointer (some ⟨g3,0,none⟩)]) (YG _ _ rfl _ rfl) ?_;simp only[pv];refine p_f 91 func91 #[.pointer (some ⟨p,0,none⟩),.func (.func 92) #[] #[.pointer (some ⟨g3,0,none⟩)]] (LQ p a gp T cl op key nm tl an sq sc mx ps 92 #[.pointer (some ⟨g3,0,none⟩)] kd _ r1 hT func92 (by kernel_rfl) (fun k w' hk hb=>(F7 _ kd g3 w' (r3.belowAll hb)).mono fun e w2 ⟨h1,h2⟩=>⟨0,0,none,0,0,none,0,0,h1,h2⟩)) ?_;rintro _ z1002 ⟨g,rfl,hG,hb⟩;refine⟨_,rfl,?_⟩;simp only[pv];replace hG:=hG.down sb.size;replace sb:=sb.trans ((Kept.ofBelow hb).below w.heap.size sb.size (by simp));clear hb r1 r3;refine p_a (Za ?_);simp only[pv];go_wp2;go_ret;exact⟨_,rfl,hG,sb⟩
theorem IE (p:Nat)(a:Int)(gp:Option Addr)(T:Nat)(cl op:Int)(key:List UInt8)(nm:Value)(tl:Nat->Int)(an:Nat->Bool)(sq sc:Int)(mx ps:Value)(w:World)(r1:Row w p (wtC a (.pointer gp) (T:Nat) cl op key nm tl an sq sc mx ps) 99)(hT:T<=2)(ha:0<a):
  Calls prog 15 #[.pointer (some ⟨p,0,none⟩)] w fun e w'=> ∃g,e= .returned (.slice (some ⟨g,0,none⟩) (3*T+1) (3*T+1))/\Vy w' w.heap.size (3*T+1) 1 op key g/\Below w.heap.size w w':=by
 go_enter func15,ntmps15
 have sb:=Z9 w;iterate 2 go_step
 refine rp ?_;refine p_v (.slice none 0 0) (fun _=>rfl) (Za ?_);simp only[pv];iterate 4 go_step
 refine rp ?_;refine p_m ?_;simp only[pv];refine p_f 50 func50 #[.pointer (some ⟨p,0,none⟩)] (WL p a gp T cl op key nm tl an sq sc mx ps _ r1 ha) ?_;rintro _ z1001 ⟨rfl,hb⟩;refine⟨_,rfl,?_⟩;simp only[pv];have k:=Kept.ofBelow hb;clear hb;replace r1:=k.ro r1;replace sb:=kk sb k;clear k;refine p_v _ (Zp _ _ rfl true rfl) (Za ?_);simp only[pv];iterate 7 go_step
 refine rp ?_;refine p_m ?_;simp only[pv];refine p_f 51 func51 #[.pointer (some ⟨p,0,none⟩),.int .i64 1] (LR p a gp T cl op key nm tl an sq sc mx ps 1 _ r1 hT) ?_;rintro _ z3002 ⟨g,rfl,hG,hb⟩;refine⟨_,rfl,?_⟩;simp only[pv];replace hG:=hG.down sb.size;replace sb:=sb.trans ((Kept.ofBelow hb).below w.heap.size sb.size (by simp));clear hb r1;refine p_a (Za ?_);simp only[pv];go_wp2;go_ret;exact⟨_,rfl,hG,sb⟩
def IF (w:World)(v:Option Addr):Prop:=v=none∨ ∃p,v=some ⟨p,0,none⟩/\Row w p (wtC 0 (.pointer none) (0:Nat) 0 0 [] (.slice none 0 0) (fun _=>0) (fun _=>false) 0 0 (.slice none 0 0) (.slice none 0 0)) 99
theorem P0 (v:Option Addr)(w:World)(h:IF w v):Calls prog 50 #[.pointer v] w (Rt (.bool false) w):=by
 rcases h with rfl|⟨p,rfl,hr⟩
 ·exact F6 w
 ·exact LN p 0 none 0 0 0 [] _ _ _ 0 0 _ _ w hr
theorem IF.below {w w2:World}{v:Option Addr}(h:IF w v)(hb:Below w.heap.size w w2):IF w2 v:=h.imp id fun⟨p,h1,h2⟩=>⟨p,h1,h2.belowAll hb⟩
theorem Cb (v:Option Addr)(w:World)(h:IF w v):
  Calls prog 15 #[.pointer v] w fun e w'=>e= .returned (.slice none 0 0)/\Below w.heap.size w w':=by
 go_enter func15,ntmps15
 have sb:=Z9 w;iterate 2 go_step
 refine rp ?_;refine p_v (.slice none 0 0) (fun _=>rfl) (Za ?_);simp only[pv];iterate 4 go_step
 refine rp ?_;refine p_m ?_;simp only[pv];refine p_f 50 func50 #[.pointer v] (P0 v _ h) ?_;rintro _ z1001 ⟨rfl,hb⟩;refine⟨_,rfl,?_⟩;simp only[pv];have k:=Kept.ofBelow hb;clear hb;replace h:=h.below k.nil;replace sb:=kk sb k;clear k;refine p_v _ (Zp _ _ rfl false rfl) (Za ?_);simp only[pv];iterate 4 go_step
 refine rp ?_;refine p_v (.slice none 0 0) (fun _=>rfl) (Za ?_);simp only[pv];go_wp2;go_ret;exact⟨rfl,sb⟩
end Go.Proofs.YtcdahmommonnfaaGreatDoor
