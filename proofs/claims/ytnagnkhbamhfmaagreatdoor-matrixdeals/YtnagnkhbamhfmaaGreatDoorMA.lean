import Derived.Shelf.Strings.Builder1
import Derived.Shelf.Strings.Builder2
import Derived.Test.YtnagnkhbamhfmaaGreatDoorCO
import Derived.Test.YtnagnkhbamhfmaaGreatDoorWeFun
import Derived.Test.YtnagnkhbamhfmaaGreatDoorBT
import Derived.Test.YtnagnkhbamhfmaaGreatDoorGU
set_option maxRecDepth 100000
set_option maxHeartbeats 8000000
namespace Go.Proofs.YtnagnkhbamhfmaaGreatDoor
set_option linter.all false
open Go.Shelf Go.RowKit Go.Proofs.Tryz
def NQ:Go.Shelf.Ren:=⟨fun|166=>72|167=>70|169=>73|240=>123|276=>168|n=>n,fun|0=>0|70=>117|3=>3|4=>4|5=>5|9=>9|20=>20|72=>120|37=>118|75=>122|76=>125|127=>165|164=>194|80=>127|n=>n,fun|n=>n⟩
theorem xS:Go.Proofs.Lays.n166 prog NQ:={
 mixed:=by kernel_rfl
 f166:=func72.trans (cY0 some (by kernel_rfl))
 f240:=func123.trans (cY0 some (by kernel_rfl))
 f276:=func168.trans (cY0 some (by kernel_rfl))
 t0:=underlying0
 a0:=isAgg0
 z0:=sizeOf0
 v0:=zeroValue0
 t3:=bS0
 a3:=bG0
 z3:=aJ0
 v3:=zeroValue3
 t4:=underlying4
 a4:=isAgg4
 z4:=sizeOf4
 v4:=zeroValue4
 t9:=N_
 a9:=isAgg9
 z9:=sizeOf9
 v9:=zeroValue9
 t20:=underlying20
 a20:=isAgg20
 z20:=sizeOf20
 v20:=zeroValue20
 t37:=dG0
 a37:=isAgg118
 z37:=sizeOf118
 v37:=zeroValue118
 t70:=underlying117
 a70:=isAgg117
 z70:=sizeOf117
 v70:=zeroValue117
 t72:=underlying120
 a72:=isAgg120
 z72:=sizeOf120
 v72:=zeroValue120
 t75:=underlying122
 a75:=isAgg122
 z75:=sizeOf122
 v75:=zeroValue122
 t164:=underlying194
 a164:=isAgg194
 z164:=sizeOf194
 v164:=zeroValue194}
theorem xT:Go.Proofs.Lays.n167 prog NQ:={
 mixed:=by kernel_rfl
 f167:=func70.trans (cY0 some (by kernel_rfl))
 f240:=func123.trans (cY0 some (by kernel_rfl))
 f276:=func168.trans (cY0 some (by kernel_rfl))
 t0:=underlying0
 a0:=isAgg0
 z0:=sizeOf0
 v0:=zeroValue0
 t4:=underlying4
 a4:=isAgg4
 z4:=sizeOf4
 v4:=zeroValue4
 t5:=bX0
 a5:=isAgg5
 z5:=fG0
 v5:=zeroValue5
 t9:=N_
 a9:=isAgg9
 z9:=sizeOf9
 v9:=zeroValue9
 t20:=underlying20
 a20:=isAgg20
 z20:=sizeOf20
 v20:=zeroValue20
 t37:=dG0
 a37:=isAgg118
 z37:=sizeOf118
 v37:=zeroValue118
 t70:=underlying117
 a70:=isAgg117
 z70:=sizeOf117
 v70:=zeroValue117
 t72:=underlying120
 a72:=isAgg120
 z72:=sizeOf120
 v72:=zeroValue120
 t75:=underlying122
 a75:=isAgg122
 z75:=sizeOf122
 v75:=zeroValue122
 t164:=underlying194
 a164:=isAgg194
 z164:=sizeOf194
 v164:=zeroValue194}
theorem xU:Go.Proofs.Lays.n169 prog NQ:={
 mixed:=by kernel_rfl
 f169:=func73.trans (cY0 some (by kernel_rfl))
 t0:=underlying0
 a0:=isAgg0
 z0:=sizeOf0
 v0:=zeroValue0
 t3:=bS0
 a3:=bG0
 z3:=aJ0
 v3:=zeroValue3
 t9:=N_
 a9:=isAgg9
 z9:=sizeOf9
 v9:=zeroValue9
 t37:=dG0
 a37:=isAgg118
 z37:=sizeOf118
 v37:=zeroValue118
 t70:=underlying117
 a70:=isAgg117
 z70:=sizeOf117
 v70:=zeroValue117
 t72:=underlying120
 a72:=isAgg120
 z72:=sizeOf120
 v72:=zeroValue120
 t127:=underlying165
 a127:=isAgg165
 z127:=sizeOf165
 v127:=zeroValue165}
theorem xV:Builder.Extra prog NQ:={
 sizeBuilder:=by kernel_rfl
 liesBuilder:=by kernel_rfl
 t5:=bX0
 a5:=isAgg5
 z5:=fG0
 v5:=zeroValue5
 infoByte:=by kernel_rfl
 cellsByte:=by kernel_rfl
 sizeByte:=by kernel_rfl
 neB5:=by decide}
def Lf (w:World)(B b:Nat)(l:List UInt8):Prop:=Lib.IsBuilder 120 5 B b (Lib.byteCells l) w
theorem NR {B g0:Nat}{p:Value}{bs:List Value}{w w':World}(h:Lib.BuilderAt 120 5 B g0 p bs w)(hb:Below w.heap.size w w'):Lib.BuilderAt 120 5 B g0 p bs w':=by
 obtain⟨hB,v,hbk,hown,hne⟩:=h;refine⟨hB,v,(hb.block g0 (O_.1 hbk).1).trans hbk,?_,hne⟩;exact hown.kept (row:=none) ⟨hb.os,hb.tape,hb.output,hb.size,fun k hk _=>hb.block k hk⟩ (by cases v.ownBlock<;>simp)
theorem Lf.below {B b:Nat}{l:List UInt8}{w w':World}(h:Lf w B b l)(hb:Below w.heap.size w w'):Lf w' B b l:=h.imp (fun h=>NR h hb) (fun h=>NR h hb)
theorem Lf.fresh {B b:Nat}{w:World}(hB:B<=b)(h:Row w b #[.pointer none,.slice none 0 0] 120):Lf w B b []:=
 Or.inl ⟨hB,.slice none 0 0,h,gM0 _ _ _ _,by simp[Value.ownBlock]⟩
theorem FI (B b:Nat)(l s:List UInt8)(w:World)(h:Lf w B b l)(hlen:l.length+s.length<=100000)(hBw:B<=w.heap.size):
  Calls prog 72 #[.pointer (some ⟨b,0,none⟩),.string ⟨s.toArray⟩] w fun e w'=>e= .returned (.tuple #[.int .i64 s.length,.nilIface])/\Lf w' B b (l++s)/\Below B w w':=by
 have hs:(⟨s.toArray⟩:ByteArray).size=s.length:=by simp[ByteArray.size]
 have h1:=Any.Builder_WriteString xS xV B b (Lib.byteCells l) ⟨s.toArray⟩ w h (by rw[Lib.byteCells_length,hs];omega) hBw;rw[hs]at h1;refine h1.mono fun e w' ⟨he,hb,hl⟩=>⟨he,.inr ?_,hl⟩
 have e2:Lib.byteCells l++Lib.strCells ⟨s.toArray⟩=Lib.byteCells (l++s):=by simp[Lib.byteCells,Lib.strCells]
 rw[<-e2];exact hb
theorem FJ (B b:Nat)(l:List UInt8)(w:World)(h:Lf w B b l)(hBw:B<=w.heap.size):
  Calls prog 73 #[.pointer (some ⟨b,0,none⟩)] w fun e w'=>e= .returned (.string ⟨l.toArray⟩)/\Below B w w':=Any.Builder_String_any xU xV B b l w h hBw
theorem R5 (B b c:Nat)(l:List UInt8)(w:World)(h:Lf w B b l)(hc:c<256)(hlen:l.length+1<=100000)(hBw:B<=w.heap.size):
  Calls prog 70 #[.pointer (some ⟨b,0,none⟩),.int .u8 c] w fun e w'=>e= .returned .nilIface/\Lf w' B b (l++[UInt8.ofNat c])/\Below B w w':=by
 have h1:=Any.Builder_WriteByte xT xV B b (Lib.byteCells l) c w h (by rw[Lib.byteCells_length];omega) hBw;refine h1.mono fun e w' ⟨he,hb,hl⟩=>⟨he,.inr ?_,hl⟩
 have e2:Lib.byteCells l++[Value.int .u8 c]=Lib.byteCells (l++[UInt8.ofNat c]):=by
  simp[Lib.byteCells,g_ hc]
 rw[<-e2];exact hb
open Go.RowKit
theorem WY:prog.underlying 31=some (.slice (prog.elem 31)):=by kernel_rfl
theorem FK (w:World):(zeroValue 120).run prog w= .ok (.agg #[.pointer none,.slice none 0 0]) w:=by kernel_rfl
def lrB (t:Int):Bool:=decide (1<=t)&&decide (t<=2)
def ccB (r c:Int):Bool:=decide (1<=r)&&decide (r<=25)&&decide (1<=c)&&decide (c<=7)
def tbB (n:Nat)(N:Nat->Nat):Bool:=ccB n (N 0)&& !anB (fun k=> !decide ((N k:Int)=N 0)) n
theorem Lg (t:Int)(b1 b2:Bool)(w:World)(h1:decide (1<=t)=b1)(h2:decide (t<=2)=b2):
  Calls prog 32 #[.int .i64 t] w fun e w'=>e= .returned (.bool (b1&&b2))/\Below w.heap.size w w':=by
 cases b1
 ·show Calls _ _ _ _ fun e w'=>e= .returned (.bool false)/\_
  go_enter func32,ntmps32
  have sb:=YG w;iterate 2 go_step
  refine rp ?_;refine p_v (.bool false) (fun _=>rfl) (Zb ?_);simp only[pv];iterate 3 go_step
  refine rp ?_;refine p_m ?_;simp only[pv];refine p_v _ (ZY _ _ _ _ rfl (t) (1) rfl rfl false h1) ?_;refine p_m ?_;refine p_s ?_;refine p_s ?_;refine p_k false (.bool false) ?_;simp only[pv];refine p_a (Zb ?_);simp only[pv];go_wp2;go_ret;exact⟨rfl,sb⟩
 ·show Calls _ _ _ _ fun e w'=>e= .returned (.bool b2)/\_
  go_enter func32,ntmps32
  have sb:=YG w;iterate 2 go_step
  refine rp ?_;refine p_v (.bool false) (fun _=>rfl) (Zb ?_);simp only[pv];iterate 3 go_step
  refine rp ?_;refine p_m ?_;simp only[pv];refine p_v _ (ZY _ _ _ _ rfl (t) (1) rfl rfl true h1) ?_;refine p_m ?_;refine p_m ?_;simp only[pv];refine p_v _ (Xs _ _ _ _ rfl (t) (2) rfl rfl b2 h2) ?_;refine p_k true (.bool b2) ?_;refine p_a (Zb ?_);simp only[pv];go_wp2;go_ret;exact⟨rfl,sb⟩
theorem Wy (t:Int)(w:World):Calls prog 32 #[.int .i64 t] w (Rt (.bool (lrB t)) w):=Lg t _ _ w rfl rfl
theorem OP (r c:Int)(b1 b2 b3 b4:Bool)(w:World)(h1:decide (1<=r)=b1)(h2:decide (r<=25)=b2)(h3:decide (1<=c)=b3)(h4:decide (c<=7)=b4):
  Calls prog 33 #[.int .i64 r,.int .i64 c] w fun e w'=>e= .returned (.bool (b1&&b2&&b3&&b4))/\Below w.heap.size w w':=by
 cases b1
 ·show Calls _ _ _ _ fun e w'=>e= .returned (.bool false)/\_
  go_enter iF0,ntmps33
  have sb:=YG w;iterate 2 go_step
  refine rp ?_;refine p_v (.bool false) (fun _=>rfl) (Zb ?_);simp only[pv];iterate 3 go_step
  refine rp ?_;refine p_m ?_;simp only[pv];refine p_v _ (ZY _ _ _ _ rfl (r) (1) rfl rfl false h1) ?_;refine p_m ?_;refine p_s ?_;refine p_s ?_;refine p_k false (.bool false) ?_;simp only[pv];refine p_m ?_;refine p_s ?_;refine p_s ?_;refine p_k false (.bool false) ?_;refine p_m ?_;simp only[pv];refine p_s ?_;refine p_s ?_;refine p_k false (.bool false) ?_;refine p_a (Zb ?_);simp only[pv];go_wp2;go_ret;exact⟨rfl,sb⟩
 ·cases b2
  ·show Calls _ _ _ _ fun e w'=>e= .returned (.bool false)/\_
   go_enter iF0,ntmps33
   have sb:=YG w;iterate 2 go_step
   refine rp ?_;refine p_v (.bool false) (fun _=>rfl) (Zb ?_);simp only[pv];iterate 3 go_step
   refine rp ?_;refine p_m ?_;simp only[pv];refine p_v _ (ZY _ _ _ _ rfl (r) (1) rfl rfl true h1) ?_;refine p_m ?_;refine p_m ?_;simp only[pv];refine p_v _ (Xs _ _ _ _ rfl (r) (25) rfl rfl false h2) ?_;refine p_k true (.bool false) ?_;refine p_m ?_;refine p_s ?_;refine p_s ?_;simp only[pv];refine p_k false (.bool false) ?_;refine p_m ?_;refine p_s ?_;refine p_s ?_;refine p_k false (.bool false) ?_;simp only[pv];refine p_a (Zb ?_);simp only[pv];go_wp2;go_ret;exact⟨rfl,sb⟩
  ·cases b3
   ·show Calls _ _ _ _ fun e w'=>e= .returned (.bool false)/\_
    go_enter iF0,ntmps33
    have sb:=YG w;iterate 2 go_step
    refine rp ?_;refine p_v (.bool false) (fun _=>rfl) (Zb ?_);simp only[pv];iterate 3 go_step
    refine rp ?_;refine p_m ?_;simp only[pv];refine p_v _ (ZY _ _ _ _ rfl (r) (1) rfl rfl true h1) ?_;refine p_m ?_;refine p_m ?_;simp only[pv];refine p_v _ (Xs _ _ _ _ rfl (r) (25) rfl rfl true h2) ?_;refine p_k true (.bool true) ?_;refine p_m ?_;refine p_m ?_;simp only[pv];refine p_v _ (ZY _ _ _ _ rfl (c) (1) rfl rfl false h3) ?_;refine p_k true (.bool false) ?_;refine p_m ?_;refine p_s ?_;refine p_s ?_;simp only[pv];refine p_k false (.bool false) ?_;refine p_a (Zb ?_);simp only[pv];go_wp2;go_ret;exact⟨rfl,sb⟩
   ·show Calls _ _ _ _ fun e w'=>e= .returned (.bool b4)/\_
    go_enter iF0,ntmps33
    have sb:=YG w;iterate 2 go_step
    refine rp ?_;refine p_v (.bool false) (fun _=>rfl) (Zb ?_);simp only[pv];iterate 3 go_step
    refine rp ?_;refine p_m ?_;simp only[pv];refine p_v _ (ZY _ _ _ _ rfl (r) (1) rfl rfl true h1) ?_;refine p_m ?_;refine p_m ?_;simp only[pv];refine p_v _ (Xs _ _ _ _ rfl (r) (25) rfl rfl true h2) ?_;refine p_k true (.bool true) ?_;refine p_m ?_;refine p_m ?_;simp only[pv];refine p_v _ (ZY _ _ _ _ rfl (c) (1) rfl rfl true h3) ?_;refine p_k true (.bool true) ?_;refine p_m ?_;refine p_m ?_;simp only[pv];refine p_v _ (Xs _ _ _ _ rfl (c) (7) rfl rfl b4 h4) ?_;refine p_k true (.bool b4) ?_;refine p_a (Zb ?_);simp only[pv];go_wp2;go_ret;exact⟨rfl,sb⟩
theorem XJ (r c:Int)(w:World):Calls prog 33 #[.int .i64 r,.int .i64 c] w (Rt (.bool (ccB r c)) w):=OP r c _ _ _ _ w rfl rfl rfl rfl
theorem So {fn:Func}(ab:Option Addr)(n c:Nat)(f:FuncId)(caps:Array Value)(B:Nat->Bool)(w:World)(hf:prog.funcs[f]?=some fn)(hb0:(fn.name== "runtime.NumGoroutine" ||fn.body.isNone)=false)(hn:n<4611686018427387904)
  (hc: ∀k:Nat,k<n-> ∀w',Below w.heap.size w w'->Calls prog f (#[.int .i64 k]++caps) w' (Rt (.bool (B k)) w')):
  Calls prog 59 #[.slice ab n c,.func (.func f) #[] caps] w fun e w'=>e= .returned (.bool (!anB (fun k=> !B k) n))/\Below w.heap.size w w':=by
 go_enter func59,ntmps59
 have sb:=YG w;iterate 2 go_step
 refine rp ?_;refine p_v (.bool false) (fun _=>rfl) (Zb ?_);simp only[pv];iterate 4 go_step
 refine rp ?_;refine p_m ?_;simp only[pv];refine p_v _ (n_l ab n c WY) ?_;refine p_v (.int .i64 0) (fun _=>rfl) (Zb ?_);simp only[pv]
 go_wp2_with fail
 go_loopg [5,8] n (fun x s5 s8 wr=> ∃k:Nat,k+x=n/\s8= .int .i64 k/\anB (fun k=> !B k) k=false/\Below w.heap.size w wr)
 case atStart=>exact⟨0,by omega,rfl,rfl,sb⟩
 case round=>
  clear sb;obtain⟨k,hk,rfl,han,sb⟩:=hrel
  cases gk with
  |zero=>
   obtain rfl:k=n:=by omega
   have HF:Hid (anB (fun k=> !B k) k=false):=han;clear hk hc han
   go_step
   refine rp ?_;refine p_v _ (Xe k k) (Zb ?_);simp only[pv];iterate 8 go_step
   refine rp ?_;refine p_v (.bool true) (fun _=>rfl) (Zb ?_);simp only[pv];go_wp2;go_ret;exact⟨by rw[HF.out];rfl,sb⟩
  |succ x=>
   have hlt:k<n:=by omega
   have hck:=hc k hlt;clear hc
   cases hBk:B k with
   |true=>
    have hnx:anB (fun k=> !B k) (k+1)=false:=by
     show(anB (fun k=> !B k) k|| !B k)=false
     rw[han,hBk];rfl
    rw[hBk]at hck
    go_step
    refine rp ?_;refine p_v _ (X4 k n) (Zb ?_);simp only[pv];iterate 10 go_step
    refine rp ?_;refine p_m ?_;refine p_a (Zb ?_);simp only[pv];iterate 3 go_step
    refine rp ?_;refine p_m ?_;refine p_m ?_;simp only[pv];refine Xa (by rfl) (f) _ _ _ rfl (caps) rfl (hf) (hb0) #[.int .i64 (k:Nat)] rfl _ (hck _ sb) ?_;intro z4002 k;simp only[pv];replace sb:=kk sb k;clear k;refine p_v _ (Zz _ _ rfl true rfl) (Zb ?_);simp only[pv];iterate 6 go_step
    refine rp ?_;refine p_v _ (x_a k 1) ?_;refine p_m (Zb ?_);simp only[pv];go_wp2
    go_roundg x
    case measure=>omega
    case rel=>exact⟨k+1,by omega,rfl,hnx,sb⟩
   |false=>
    have HF:Hid (anB (fun k=> !B k) n=true):=(Vm (fun k=> !B k) n).2 ⟨k,hlt,by show(!B k)=true;rw[hBk];rfl⟩;rw[hBk]at hck
    go_step
    refine rp ?_;refine p_v _ (X4 k n) (Zb ?_);simp only[pv];iterate 10 go_step
    refine rp ?_;refine p_m ?_;refine p_a (Zb ?_);simp only[pv];iterate 3 go_step
    refine rp ?_;refine p_m ?_;refine p_m ?_;simp only[pv];refine Xa (by rfl) (f) _ _ _ rfl (caps) rfl (hf) (hb0) #[.int .i64 (k:Nat)] rfl _ (hck _ sb) ?_;intro z4002 k;simp only[pv];replace sb:=kk sb k;clear k;refine p_v _ (Zz _ _ rfl false rfl) (Zb ?_);simp only[pv];iterate 4 go_step
    refine rp ?_;refine p_v (.bool false) (fun _=>rfl) (Zb ?_);simp only[pv];go_wp2;go_ret;exact⟨by rw[HF.out];rfl,sb⟩
theorem Sq {fn:Func}(n:Nat)(f:FuncId)(caps:Array Value)(F:Nat->Nat)(w:World)(hf:prog.funcs[f]?=some fn)(hb0:(fn.name== "runtime.NumGoroutine" ||fn.body.isNone)=false)(hn:n<=4000)
  (hc: ∀k:Nat,k<n-> ∀w',Below w.heap.size w w'->Calls prog f (#[.int .i64 k]++caps) w' (Rt (.agg (Zc (F k))) w')):
  Calls prog 44 #[.int .i64 n,.func (.func f) #[] caps] w fun e w'=> ∃g,e= .returned (.slice (some ⟨g,0,none⟩) n n)/\w.heap.size<=g/\Row w' g (nsC n F) 57/\Below w.heap.size w w':=by
 obtain⟨ie,hie,hze,hsz,hby⟩:=Yn
 go_enter func44,ntmps44
 have sb:=YG w;iterate 2 go_step
 refine rp ?_;refine p_v (.slice none 0 0) ((fun _=>rfl)) (Zb ?_);simp only[pv];iterate 3 go_step
 refine rp ?_;refine p_m ?_;simp only[pv];refine XT (by rfl) 22 57 _ _ rfl ie _ r_ hie hze n rfl rfl (by rw[hsz];omega) (by rw[hby];omega) (by omega) ?_;intro gM z1001 n0 rM k;simp only[pv];have bM:=f_ sb.size n0;clear n0;replace sb:=kk sb k;clear k;refine p_a (Zb ?_);simp only[pv];rw[hsz,Xz]at rM;iterate 4 go_step
 refine rp ?_;refine p_m ?_;refine p_v (.int .i64 0) (fun _=>rfl) (Zb ?_);simp only[pv]
 go_wp2_with fail
 go_loopg [6,10] n (fun g s6 s10 wr=> ∃k:Nat,k+g=n/\s10= .int .i64 k/\Row wr gM (nsC n (fun j=>if j<k then F j else 0)) 57/\Below w.heap.size w wr)
 case atStart=>exact⟨0,by omega,rfl,by rw[show(fun j=>if j<0 then F j else 0)=fun _=>0 from funext fun j=>i_ (by omega)];exact rM,sb⟩
 case round=>
  clear rM sb;obtain⟨k,hk,rfl,rM,sb⟩:=hrel
  cases gk with
  |zero=>
   obtain rfl:k=n:=by omega
   clear hk hc;rw[Yw k _ F (fun j hj=>j_ hj)]at rM
   go_step
   refine rp ?_;refine p_v _ (Xe k k) (Zb ?_);simp only[pv];iterate 8 go_step
   refine rp ?_;refine p_m ?_;refine p_a (Zb ?_);simp only[pv];go_wp2;go_ret;exact⟨gM,rfl,bM,rM,sb⟩
  |succ g=>
   have hlt:k<n:=by omega
   have hput:=Wa n (fun j=>if j<k then F j else 0) (fun j=>if j<k+1 then F j else 0) k hlt (0+k*4) (by omega) (F k) (fun j hj=>by
    by_cases hjk:j=k
    ·subst hjk;rw[j_ (by omega),j_ rfl]
    ·rw[i_ hjk];by_cases h2:j<k
     ·rw[j_ h2,j_ (by omega)]
     ·rw[i_ h2,i_ (by omega)])
   go_step
   refine rp ?_;refine p_v _ (X4 k n) (Zb ?_);simp only[pv];iterate 10 go_step
   refine rp ?_;refine p_m ?_;refine p_a (Zb ?_);simp only[pv];iterate 2 go_step
   refine rp ?_;refine p_m ?_;refine p_m ?_;refine p_m ?_;refine p_m ?_;simp only[pv];refine Xa (by rfl) (f) _ _ _ rfl (caps) rfl (hf) (hb0) #[.int .i64 (k:Nat)] rfl _ (hc k hlt _ sb) ?_;intro z5004 k;simp only[pv];replace rM:=k.ro rM;replace sb:=kk sb k;clear k;refine p_x k hlt r_ ZC ?_;simp only[pv];refine VQ (by rfl) 57 _ _ rfl _ (0+k*4) rfl rM (Zc (F k)) rfl (by exact Zd) (by rw[ZZ,Zo];omega) (Zu _) (nsC n (fun j=>if j<k+1 then F j else 0)) hput ?_;clear rM;intro z5006 rM k;simp only[Act.put];replace sb:=kk sb k;clear k;refine Zb ?_;clear hput;iterate 2 go_step
   refine rp ?_;refine p_v _ (x_a k 1) ?_;refine p_m (Zb ?_);simp only[pv];go_wp2
   go_roundg g
   case measure=>omega
   case rel=>exact⟨k+1,by omega,rfl,rM,sb⟩
theorem NS (v f:Option Addr)(P Q G:Nat)(r:Option Addr)(w:World)(h:Oi w v P Q G r f):
  Calls prog 58 #[.pointer v] w fun e w'=>e= .returned (.bool (!f.isNone))/\Below w.heap.size w w':=by
 have hf:=fun w' (hb:Below w.heap.size w w')=>YF v P Q G r f w' (h.below hb)
 go_enter func58,ntmps58
 have sb:=YG w;iterate 2 go_step
 refine rp ?_;refine p_v (.bool false) (fun _=>rfl) (Zb ?_);simp only[pv];iterate 3 go_step
 refine rp ?_;refine p_m ?_;simp only[pv];refine p_c 98 func98 #[.pointer v] (hf _ sb) ?_;intro z1001 k;simp only[pv];replace sb:=kk sb k;clear k;refine p_v _ (YK _ _ _ _ rfl f rfl rfl Vh) ?_;refine p_a (Zb ?_);simp only[pv];go_wp2;go_ret;exact⟨rfl,sb⟩
theorem FL (ab:Option Addr)(n c:Nat)(S:Nat->Value)(gb ob:Nat)(bcs:Array Value)(tb:TypeId)(a0 ai:Option Addr)(k nk ck n0 c0 g1:Nat)(w:World)(hk:k<n)(hS0:S 0= .slice a0 n0 c0)(hSk:S k= .slice ai nk ck)(r1:Row w g1 #[.slice ab n c] 31)(hna:VsAt w ab n S gb ob bcs tb):
  Calls prog 122 #[.int .i64 k,.pointer (some ⟨g1,0,none⟩)] w fun e w'=>e= .returned (.bool (decide ((nk:Int)=n0)))/\Below w.heap.size w w':=by
 obtain⟨B,hB⟩: ∃B,decide ((nk:Int)=n0)=B:=⟨_,rfl⟩
 rw[hB];obtain h0|⟨rfl,rB,hbt⟩:=hna.at'
 ·exact absurd h0 (by omega)
 have hbk:=hbt k hk;have hb0:=hbt 0 (by omega);rw[hSk]at hbk;rw[hS0]at hb0;clear hbt hna
 go_enter func122,ntmps122
 have sb:=YG w;iterate 2 go_step
 refine rp ?_;refine p_v (.bool false) (fun _=>rfl) (Zb ?_);simp only[pv];iterate 3 go_step
 refine ZD (by kernel_rfl) (by kernel_rfl) ?_;refine ZS (by rfl) 31 _ rfl _ (0) rfl r1 (.slice (some ⟨gb,ob,none⟩) n c) rfl fH0 ?_;refine q_m ?_;simp only[pv];refine q_x k hk bH0 aO0 ?_;simp only[pv];refine Ym (by rfl) 22 _ rfl _ (ob+k*1) rfl rB (.slice ai nk ck) hbk aD0 ?_;simp only[pv];refine q_v _ (n_l ai nk ck Zm) ?_;simp only[pv];refine ZS (by rfl) 31 _ rfl _ (0) rfl r1 (.slice (some ⟨gb,ob,none⟩) n c) rfl fH0 ?_;simp only[pv];refine q_v _ ((Zw 31 _ _ rfl (gb) (ob) (n) (c) rfl (0) rfl (by omega) _ bH0 1 aO0)) ?_;simp only[pv];refine Ym (by rfl) 22 _ rfl _ (ob+0*1) rfl rB (.slice a0 n0 c0) hb0 aD0 ?_;simp only[pv];refine q_v _ (n_l a0 n0 c0 Zm) ?_;simp only[pv];refine q_v _ (ZK .i64 _ _ _ _ rfl nk n0 rfl rfl B hB) ?_;refine q_a ?_;simp only[pv];refine ZR ?_;intro w3 hqb;replace sb:=b_o sb hqb;clear hqb;go_wp2;go_ret;exact⟨rfl,sb⟩
theorem BW (ab:Option Addr)(n c:Nat)(S:Nat->Value)(gb ob:Nat)(bcs:Array Value)(tb:TypeId)(w:World)(hn:n<4611686018427387904)(hna:VsAt w ab n S gb ob bcs tb)(N:Nat->Nat)(hN: ∀i,i<n-> ∃ai ci,S i= .slice ai (N i) ci):
  Calls prog 69 #[.slice ab n c] w fun e w'=>e= .returned (.bool (tbB n N))/\Below w.heap.size w w':=by
 by_cases h0:n=0
 ·subst h0;show Calls _ _ _ _ fun e w'=>e= .returned (.bool false)/\_
  go_enter func69,ntmps69
  have sb:=YG w;iterate 2 go_step
  refine rp ?_;refine Ye (by rfl) 31 _ rfl (.slice ab 0 c) rfl rfl ?_;intro g1 z0 n0 r1 k;simp only[pv];clear n0;replace sb:=kk sb k;clear k;refine p_v (.bool false) (fun _=>rfl) (Zb ?_);simp only[pv];iterate 4 go_step
  refine ZD (by kernel_rfl) (by kernel_rfl) ?_;refine ZS (by rfl) 31 _ rfl _ (0) rfl r1 (.slice ab 0 c) rfl fH0 ?_;simp only[pv];refine q_v _ (n_l ab 0 c WY) ?_;simp only[pv];refine q_v _ (ZK .i64 _ _ _ _ rfl 0 0 rfl rfl true rfl) ?_;refine q_m ?_;simp only[pv];refine ZI (by rfl) ?_;simp only[pv];refine ZI (by rfl) ?_;simp only[pv];refine ZI (by rfl) ?_;simp only[pv];refine ZI (by rfl) ?_;simp only[pv];refine ZI (by rfl) ?_;simp only[pv];refine ZI (by rfl) ?_;simp only[pv];refine ZI (by rfl) ?_;simp only[pv];refine ZI (by rfl) ?_;refine q_p true (.bool true) ?_;simp only[pv];refine ZR ?_;intro w3 hqb;replace sb:=b_o sb hqb;clear hqb;iterate 4 go_step
  refine rp ?_;refine p_v (.bool false) (fun _=>rfl) (Zb ?_);simp only[pv];go_wp2;go_ret;exact⟨rfl,sb⟩
 obtain⟨a0,c0,hS0⟩:=hN 0 (by omega);obtain h0'|⟨rfl,rB,hbt⟩:=hna.at'
 ·exact absurd h0' h0
 have hb0:=hbt 0 (by omega);rw[hS0]at hb0;have HB:Hid (VsAt w (some ⟨gb,ob,none⟩) n S gb ob bcs tb):=hna;have HR:Hid (WV w gb bcs tb):=rB;clear hbt hna rB;have hcc:=fun w'=>XJ n (N 0:Nat) w'
 unfold tbB;cases hB:ccB n (N 0)
 ·show Calls _ _ _ _ fun e w'=>e= .returned (.bool false)/\_
  rw[hB]at hcc;clear hN
  go_enter func69,ntmps69
  have sb:=YG w;iterate 2 go_step
  refine rp ?_;refine Ye (by rfl) 31 _ rfl (.slice (some ⟨gb,ob,none⟩) n c) rfl rfl ?_;intro g1 z0 n0 r1 k;simp only[pv];clear n0;replace sb:=kk sb k;clear k;refine p_v (.bool false) (fun _=>rfl) (Zb ?_);simp only[pv];have rB:=HR.out.belowAll sb;iterate 4 go_step
  refine ZD (by kernel_rfl) (by kernel_rfl) ?_;refine ZS (by rfl) 31 _ rfl _ (0) rfl r1 (.slice (some ⟨gb,ob,none⟩) n c) rfl fH0 ?_;simp only[pv];refine q_v _ (n_l (some ⟨gb,ob,none⟩) n c WY) ?_;simp only[pv];refine q_v _ (ZK .i64 _ _ _ _ rfl n 0 rfl rfl false (e_ (by omega))) ?_;refine q_m ?_;simp only[pv];refine ZS (by rfl) 31 _ rfl _ (0) rfl r1 (.slice (some ⟨gb,ob,none⟩) n c) rfl fH0 ?_;simp only[pv];refine q_v _ (n_l (some ⟨gb,ob,none⟩) n c WY) ?_;simp only[pv];refine ZS (by rfl) 31 _ rfl _ (0) rfl r1 (.slice (some ⟨gb,ob,none⟩) n c) rfl fH0 ?_;simp only[pv];refine q_v _ ((Zw 31 _ _ rfl (gb) (ob) (n) (c) rfl (0) rfl (by omega) _ bH0 1 aO0)) ?_;simp only[pv];refine Ym (by rfl) 22 _ rfl _ (ob+0*1) rfl rB (.slice a0 (N 0) c0) hb0 aD0 ?_;simp only[pv];refine q_v _ (n_l a0 (N 0) c0 Zm) ?_;simp only[pv];refine q_c 33 iF0 #[.int .i64 n,.int .i64 (N 0:Nat)] hcc ?_;simp only[pv];refine q_v _ (Zz _ _ rfl false rfl) ?_;refine q_p false (.bool true) ?_;simp only[pv];refine ZR ?_;intro w3 hqb;replace sb:=b_o sb hqb;clear hqb;iterate 4 go_step
  refine rp ?_;refine p_v (.bool false) (fun _=>rfl) (Zb ?_);simp only[pv];go_wp2;go_ret;exact⟨rfl,sb⟩
 ·show Calls _ _ _ _ fun e w'=>e= .returned (.bool (!anB _ n))/\_
  rw[hB]at hcc
  have har:=fun w' g1 (hb:Below w.heap.size w w') (r1:Row w' g1 #[.slice (some ⟨gb,ob,none⟩) n c] 31)=>So (some ⟨gb,ob,none⟩) n c 122 #[.pointer (some ⟨g1,0,none⟩)] (fun k=>decide ((N k:Int)=N 0)) w' func122 (by kernel_rfl) hn (fun k hk w2 h2=>by
   obtain⟨ai,ci,e⟩:=hN k hk
   exact FL _ n c S gb ob bcs tb a0 ai k (N k) ci (N 0) c0 g1 w2 hk hS0 e (r1.belowAll h2) (HB.out.below (Zk hb (c_ _) h2)))
  clear hN
  go_enter func69,ntmps69
  have sb:=YG w;iterate 2 go_step
  refine rp ?_;refine Ye (by rfl) 31 _ rfl (.slice (some ⟨gb,ob,none⟩) n c) rfl rfl ?_;intro g1 z0 n0 r1 k;simp only[pv];clear n0;replace sb:=kk sb k;clear k;refine p_v (.bool false) (fun _=>rfl) (Zb ?_);simp only[pv];have rB:=HR.out.belowAll sb;iterate 4 go_step
  refine ZD (by kernel_rfl) (by kernel_rfl) ?_;refine ZS (by rfl) 31 _ rfl _ (0) rfl r1 (.slice (some ⟨gb,ob,none⟩) n c) rfl fH0 ?_;simp only[pv];refine q_v _ (n_l (some ⟨gb,ob,none⟩) n c WY) ?_;simp only[pv];refine q_v _ (ZK .i64 _ _ _ _ rfl n 0 rfl rfl false (e_ (by omega))) ?_;refine q_m ?_;simp only[pv];refine ZS (by rfl) 31 _ rfl _ (0) rfl r1 (.slice (some ⟨gb,ob,none⟩) n c) rfl fH0 ?_;simp only[pv];refine q_v _ (n_l (some ⟨gb,ob,none⟩) n c WY) ?_;simp only[pv];refine ZS (by rfl) 31 _ rfl _ (0) rfl r1 (.slice (some ⟨gb,ob,none⟩) n c) rfl fH0 ?_;simp only[pv];refine q_v _ ((Zw 31 _ _ rfl (gb) (ob) (n) (c) rfl (0) rfl (by omega) _ bH0 1 aO0)) ?_;simp only[pv];refine Ym (by rfl) 22 _ rfl _ (ob+0*1) rfl rB (.slice a0 (N 0) c0) hb0 aD0 ?_;simp only[pv];refine q_v _ (n_l a0 (N 0) c0 Zm) ?_;simp only[pv];refine q_c 33 iF0 #[.int .i64 n,.int .i64 (N 0:Nat)] hcc ?_;simp only[pv];refine q_v _ (Zz _ _ rfl true rfl) ?_;refine q_p false (.bool false) ?_;simp only[pv];refine ZR ?_;intro w3 hqb;replace r1:=r1.belowAll hqb;replace sb:=b_o sb hqb;clear hqb;iterate 7 go_step
  refine rp ?_;refine p_d 0 r1.r (.slice (some ⟨gb,ob,none⟩) n c) rfl fH0 ?_;simp only[pv];refine p_v (.func (.func 122) #[] #[.pointer (some ⟨g1,0,none⟩)]) (Yr _ _ rfl _ rfl) ?_;simp only[pv];refine p_c 59 func59 #[.slice (some ⟨gb,ob,none⟩) n c,.func (.func 122) #[] #[.pointer (some ⟨g1,0,none⟩)]] (har _ g1 sb r1) ?_;intro z3002 k;simp only[pv];replace r1:=k.ro r1;replace sb:=kk sb k;clear k;refine p_a (Zb ?_);simp only[pv];go_wp2;go_ret;exact⟨rfl,sb⟩
theorem wr8 (x:Nat)(h:x<256):IntKind.u8.wrap (x:Int)=(x:Int):=by rw[IntKind.wrap_u8'];omega
def xmB (n:Nat)(N:Nat->Nat)(M:Nat->Nat->Nat):List UInt8:=if tbB n N=true then xmL n (N 0) (fun t=>M (t/N 0) (t%N 0))else[]
theorem Df {n:Nat}{N:Nat->Nat}(h:tbB n N=true):1<=n/\n<=25/\1<=N 0/\N 0<=7/\ ∀i,i<n->N i=N 0:=by
 simp only[tbB,ccB,s_,dJ0,dI0]at h;obtain⟨⟨⟨⟨h1,h2⟩,h3⟩,h4⟩,h5⟩:=h;refine⟨by omega,by omega,by omega,by omega,fun i hi=>?_⟩;by_cases e:N i=N 0
 ·exact e
 ·exact Bool.noConfusion (h5.symm.trans ((Vm _ n).2 ⟨i,hi,by show(!decide _)=true;rw[e_ (by omega)];rfl⟩))
theorem S7 (ab:Option Addr)(n c:Nat)(S:Nat->Value)(gb ob:Nat)(bcs:Array Value)(tb:TypeId)(N:Nat->Nat)(M:Nat->Nat->Nat)(w:World)(hn:n<4611686018427387904)(hna:VsAt w ab n S gb ob bcs tb)(hS: ∀i,i<n->M4 w (S i) (N i) (M i)):
  Calls prog 28 #[.slice ab n c] w fun e w'=>e= .returned (.string ⟨(xmB n N M).toArray⟩)/\Below w.heap.size w w':=by
 have htb:=fun w' (hb:Below w.heap.size w w')=>BW ab n c S gb ob bcs tb w' hn (hna.below hb) N (fun i hi=>by
  obtain⟨ai,ci,_,_,_,_,e,_⟩:=hS i hi
  exact⟨ai,ci,e⟩)
 cases hT:tbB n N
 ·rw[hT]at htb;rw[show xmB n N M=[] by unfold xmB;rw[i_ (by rw[hT];decide)]];clear hS hna
  go_enter func28,ntmps28
  have sb:=YG w;iterate 2 go_step
  refine rp ?_;refine YP (by rfl) (.inr rfl) rfl ?_;simp only[pv];refine Zb ?_;iterate 4 go_step
  refine rp ?_;refine p_m ?_;simp only[pv];refine p_c 69 func69 #[.slice ab n c] (htb _ sb) ?_;intro z1001 k;simp only[pv];replace sb:=kk sb k;clear k;refine p_v _ (Zz _ _ rfl false rfl) (Zb ?_);simp only[pv];iterate 4 go_step
  refine rp ?_;refine YP (by rfl) (.inr rfl) rfl ?_;simp only[pv];refine Zb ?_;go_wp2;go_ret;exact⟨rfl,sb⟩
 rw[hT]at htb;obtain⟨n1,n2,k1,k2,hNk⟩:=Df hT
 have HE:Hid (xmB n N M=xmL n (N 0) (fun t=>M (t/N 0) (t%N 0))):=by
  show _=_
  unfold xmB;rw[j_ hT]
 have HS:Hid (∀i,i<n-> ∃ai ci gi oi ics ti,S i= .slice ai (N 0) ci/\NatsAt w ai (N 0) (M i) gi oi ics ti):=fun i hi=>by
  obtain⟨ai,ci,gi,oi,ics,ti,e,h⟩:=hS i hi;rw[hNk i hi]at e h;exact⟨ai,ci,gi,oi,ics,ti,e,h⟩
 obtain⟨k,hk⟩: ∃k,N 0=k:=⟨_,rfl⟩
 rw[hk]at HE HS k1 k2;obtain⟨G,hG⟩: ∃G:Nat->Nat,G=fun t=>M (t/k) (t%k):=⟨_,rfl⟩
 have HG:Hid (∀i j,j<k->M i j=G (i*k+j)):=fun i j hj=>by
  rw[hG];show _=M _ _
  rw[ya i hj,yc i hj]
 have HGl:Hid (∀t,t<n*k->G t<2^256):=fun t ht=>by
  rw[hG];have h1:t/k<n:=aE0 (by rw[t_];exact ht);obtain⟨ai,ci,gi,oi,ics,ti,e,h⟩:=HS.out _ h1;exact h.lt _ (m_ _ (by omega))
 rw[<-hG]at HE;have HB:Hid (VsAt w ab n S gb ob bcs tb):=hna;clear hS hna hG hNk hk hT;have hnk:n*k<=25*7:=L_ n2 k2
 have HL:Hid (∀t,t<=n*k->(UInt8.ofNat n::UInt8.ofNat k::xmT G (t)).length+64<=100000):=fun t ht=>by
  show(xmT G t).length+1+1+64<=100000
  have:=UN (G:=G) (t:=t) (fun i hi=>HGl.out i (by omega));omega
 go_enter func28,ntmps28
 have sb:=YG w;iterate 2 go_step
 refine rp ?_;refine YP (by rfl) (.inr rfl) rfl ?_;simp only[pv];refine Zb ?_;iterate 4 go_step
 refine rp ?_;refine p_m ?_;simp only[pv];refine p_c 69 func69 #[.slice ab n c] (htb _ sb) ?_;intro z1001 k;simp only[pv];replace sb:=kk sb k;clear k;refine p_v _ (Zz _ _ rfl true rfl) (Zb ?_);simp only[pv];clear htb;iterate 7 go_step
 refine rp ?_;refine ZT (by rfl) 120 rfl _ FK ?_;intro g3 z3000 n0 r3 k;simp only[pv];have b3:=f_ sb.size n0;clear n0;replace sb:=kk sb k;clear k;refine Zb ?_;have hB:=Lf.fresh b3 r3;clear r3;iterate 3 go_step
 refine rp ?_;refine p_m ?_;simp only[pv];refine p_v _ (n_l ab n c WY) ?_;simp only[pv];refine p_v (.int .u8 (n:Nat)) (VF _ _ _ rfl .i64 .u8 bS0 bX0 (n:Nat) _ rfl (wr8 _ (by omega))) ?_;simp only[pv];refine p_f 70 func70 #[.pointer (some ⟨g3,0,none⟩),.int .u8 (n:Nat)] (R5 w.heap.size g3 n _ _ hB (by omega) (by simp) sb.size) ?_;clear hB;rintro _ z4003 ⟨rfl,hB,hb⟩;refine⟨_,rfl,?_⟩;simp only[pv];replace sb:=sb.trans hb;clear hb;refine Zb ?_;obtain⟨a0,c0,g0,o0,ics0,t0,e0,h0⟩:=HS.out 0 (by omega);obtain hx|⟨rfl,rB,hbt⟩:=(HB.out.below sb).at'
 ·exact absurd hx (by omega)
 have hb0:=hbt 0 (by omega);rw[e0]at hb0;clear hbt e0 h0;iterate 3 go_step
 refine rp ?_;refine p_m ?_;simp only[pv];refine p_v _ ((Zw 31 _ _ rfl (gb) (ob) (n) (c) rfl (0) rfl (by omega) _ bH0 1 aO0)) ?_;simp only[pv];refine p_d (ob+0*1) rB (.slice a0 k c0) hb0 aD0 ?_;simp only[pv];refine p_v _ (n_l a0 k c0 Zm) ?_;simp only[pv];refine p_v (.int .u8 (k:Nat)) (VF _ _ _ rfl .i64 .u8 bS0 bX0 (k:Nat) _ rfl (wr8 _ (by omega))) ?_;simp only[pv];refine p_f 70 func70 #[.pointer (some ⟨g3,0,none⟩),.int .u8 (k:Nat)] (R5 w.heap.size g3 k _ _ hB (by omega) (by simp) sb.size) ?_;clear hB;rintro _ z5005 ⟨rfl,hB,hb⟩;refine⟨_,rfl,?_⟩;simp only[pv];replace sb:=sb.trans hb;clear hb;refine Zb ?_;clear rB hb0;rw[show[]++[UInt8.ofNat n]++[UInt8.ofNat k]=(UInt8.ofNat n::UInt8.ofNat k::xmT G (0*k)) by rw[cD0];rfl]at hB;iterate 4 go_step
 refine rp ?_;refine p_m ?_;simp only[pv];refine p_v _ (n_l (some ⟨gb,ob,none⟩) n c WY) ?_;refine p_v (.int .i64 0) (fun _=>rfl) (Zb ?_);simp only[pv]
 go_wp2_with fail
 go_loopg [5,24] n (fun x s5 s24 wr=> ∃i:Nat,i+x=n/\s24= .int .i64 i/\Lf wr w.heap.size g3 (UInt8.ofNat n::UInt8.ofNat k::xmT G (i*k))/\Below w.heap.size w wr)
 case atStart=>exact⟨0,by omega,rfl,hB,sb⟩
 case round=>
  clear hB sb;obtain⟨i,hi,rfl,hB,sb⟩:=hrel
  cases gk with
  |zero=>
   obtain rfl:i=n:=by omega
   clear hi HG HGl HL HS HB
   go_step
   refine rp ?_;refine p_v _ (Xe i i) (Zb ?_);simp only[pv];iterate 8 go_step
   refine rp ?_;refine p_f 73 func73 #[.pointer (some ⟨g3,0,none⟩)] (FJ w.heap.size g3 _ _ hB sb.size) ?_;rintro _ z17000 ⟨rfl,hb⟩;refine⟨_,rfl,?_⟩;simp only[pv];replace sb:=sb.trans hb;clear hb;refine p_a (Zb ?_);simp only[pv];go_wp2;go_ret;exact⟨by rw[HE.out];rfl,sb⟩
  |succ x=>
   have hlt:i<n:=by omega
   obtain⟨ai,ci,gi,oi,ics,ti,ei,hi'⟩:=HS.out i hlt;obtain hx|⟨_,rB,hbt⟩:=(HB.out.below sb).at'
   ·exact absurd hx (by omega)
   have hbi:=hbt i hlt;rw[ei]at hbi;obtain hx|⟨rfl,_,_⟩:=hi'.at'
   ·exact absurd hx (by omega)
   have HI:Hid (NatsAt w (some ⟨gi,oi,none⟩) k (M i) gi oi ics ti):=hi';clear hbt ei hi'
   go_step
   refine rp ?_;refine p_v _ (X4 i n) (Zb ?_);simp only[pv];iterate 10 go_step
   refine rp ?_;refine p_x i hlt bH0 aO0 ?_;simp only[pv];refine p_d (ob+i*1) rB (.slice (some ⟨gi,oi,none⟩) k ci) hbi aD0 ?_;refine p_a (Zb ?_);simp only[pv];clear rB hbi;iterate 3 go_step
   refine rp ?_;refine p_m ?_;simp only[pv];refine p_v _ (n_l (some ⟨gi,oi,none⟩) k ci Zm) ?_;refine p_v (.int .i64 0) (fun _=>rfl) (Zb ?_);simp only[pv]
   go_wp2_with fail
   go_loopg [7,30] k (fun y s7 s30 wr=> ∃j:Nat,j+y=k/\s30= .int .i64 j/\Lf wr w.heap.size g3 (UInt8.ofNat n::UInt8.ofNat k::xmT G (i*k+j))/\Below w.heap.size w wr)
   case atStart=>exact⟨0,by omega,rfl,hB,sb⟩
   case round=>
    clear hB sb;obtain⟨j,hj,rfl,hB,sb⟩:=hrel
    cases gk with
    |zero=>
     obtain rfl:j=k:=by omega
     rw[<-fE0]at hB;clear hj
     go_step
     refine rp ?_;refine p_v _ (Xe j j) (Zb ?_);simp only[pv];iterate 7 go_step
     refine rp ?_;refine p_v _ (x_a i 1) ?_;refine p_m (Zb ?_);simp only[pv];go_wp2
     go_roundg x
     case measure=>omega
     case rel=>exact⟨i+1,by omega,rfl,hB,sb⟩
    |succ y=>
     have hjk:j<k:=by omega
     obtain hx|⟨_,rI,hbt⟩:=(HI.out.below sb).at'
     ·exact absurd hx (by omega)
     have hbj:=hbt j hjk;have hij:=yd hlt hjk;have hlt6:=HGl.out _ hij;have hll:=HL.out _ (hP0 hij)
     have hnx:(UInt8.ofNat n::UInt8.ofNat k::xmT G (i*k+j))++[UInt8.ofNat (need (G (i*k+j)))]++YW (G (i*k+j)) (need (G (i*k+j)))=(UInt8.ofNat n::UInt8.ofNat k::xmT G (i*k+(j+1))):=by
      show _=UInt8.ofNat n::UInt8.ofNat k::(xmT G (i*k+j)++xmN (G (i*k+j)))
      simp[xmN]
     have hby:=fun w'=>M9 (G (i*k+j)) w' hlt6
     rw[show XI (G (i*k+j))=⟨(YW (G (i*k+j)) (need (G (i*k+j)))).toArray⟩from rfl]at hby;have hbl:=Yd (G (i*k+j)) (need (G (i*k+j)));have hnd:=UM _ hlt6;rw[HG.out i j hjk]at hbj;clear hbt hlt6;generalize YW (G (i*k+j)) (need (G (i*k+j)))=L at*;generalize need (G (i*k+j))=nd at*;generalize G (i*k+j)=X at*
     go_step
     refine rp ?_;refine p_v _ (X4 j k) (Zb ?_);simp only[pv];have cb:=Y8 sb;iterate 10 go_step
     refine rp ?_;refine p_x j hjk r_ ZC ?_;simp only[pv];refine ZJ (by rfl) 57 _ rfl _ (oi+j*4) rfl rI (Zc X) hbj _ b_ rfl Zd ?_;simp only[pv];refine ZT (by rfl) 57 rfl _ Zp ?_;intro g7 z11002 n0 r7 k;simp only[pv];have bcbx7:=f_ cb.size n0;have b7:=f_ sb.size n0;clear n0;replace cb:=cb.trans (k.below _ cb.size (by simp<;>omega));replace sb:=kk sb k;clear k;refine p_p r7 X ?_;clear r7;intro z11003 r7 k;simp only[Act.put];replace cb:=cb.trans (k.below _ cb.size (by simp<;>omega));replace sb:=kk sb k;clear k;refine Zb ?_;replace hB:=hB.below cb;clear rI hbj cb;iterate 3 go_step
     refine rp ?_;refine p_l r7.r ?_;simp only[pv];refine p_c 71 func71 #[.agg (Zc X)] (hby _) ?_;intro z12001 k;simp only[pv];replace hB:=hB.below k.nil;replace r7:=k.ro r7;replace sb:=kk sb k;clear k;refine p_a (Zb ?_);simp only[pv];clear hby;iterate 3 go_step
     refine rp ?_;refine p_m ?_;simp only[pv];refine p_v (.int .i64 nd) (fun w'=>(VE _ _ rfl L rfl N_ w').trans (by rw[hbl])) ?_;simp only[pv];refine p_v (.int .u8 (nd:Nat)) (VF _ _ _ rfl .i64 .u8 bS0 bX0 (nd:Nat) _ rfl (wr8 _ (by omega))) ?_;simp only[pv];refine p_f 70 func70 #[.pointer (some ⟨g3,0,none⟩),.int .u8 (nd:Nat)] (R5 w.heap.size g3 nd _ _ hB (by omega) (by omega) sb.size) ?_;clear hB;rintro _ z13003 ⟨rfl,hB,hb⟩;refine⟨_,rfl,?_⟩;simp only[pv];replace sb:=sb.trans hb;clear hb;refine Zb ?_;iterate 2 go_step
     refine rp ?_;refine p_m ?_;simp only[pv];refine p_f 72 func72 #[.pointer (some ⟨g3,0,none⟩),.string ⟨(L).toArray⟩] (FI w.heap.size g3 _ _ _ hB (by rw[bC0,hbl];simp only[bB0,eJ0];simp only[bB0]at hll;omega) sb.size) ?_;clear hB;rintro _ z14001 ⟨rfl,hB,hb⟩;refine⟨_,rfl,?_⟩;simp only[pv];replace sb:=sb.trans hb;clear hb;refine Zb ?_;rw[hnx]at hB;iterate 2 go_step
     refine rp ?_;refine p_v _ (x_a j 1) ?_;refine p_m (Zb ?_);simp only[pv];go_wp2
     go_roundg y
     case measure=>omega
     case rel=>exact⟨j+1,by omega,rfl,hB,sb⟩
def tkA (l:List UInt8):Nat:=if l.length<=yb l 0 then 0 else VB ⟨((l.take (1+yb l 0)).drop 1).toArray⟩
def tkR (l:List UInt8):List UInt8:=if l.length<=yb l 0 then[]else l.drop (1+yb l 0)
def tkE (l:List UInt8):Int:=if l.length<=yb l 0 then 4 else V0 ⟨((l.take (1+yb l 0)).drop 1).toArray⟩
theorem Dg (l:List UInt8):tkN l=if tkE l=0 then some (tkA l,tkR l)else none:=by
 cases l with
 |nil=>rfl
 |cons b r=>
  have h0:yb (b::r) 0=b.toNat:=rfl;unfold tkN tkE tkA tkR;rw[h0,show 1+b.toNat=b.toNat+1 from bM0 _ _,List.take_succ_cons,List.drop_succ_cons,List.drop_succ_cons,List.drop_zero]
  dsimp only
  by_cases h:r.length<b.toNat
  ·have h2:(b::r).length<=b.toNat:=h;rw[j_ h,j_ h2,i_ (by decide)]
  ·have h2: ¬(b::r).length<=b.toNat:=h;rw[i_ h,i_ h2,i_ h2,i_ h2]
theorem FM (s:ByteArray):V0 s=0∨V0 s=4:=by
 unfold V0
 split
 ·exact .inr rfl
 ·exact .inl rfl
theorem yf (l:List UInt8):tkE l=0∨tkE l=4:=by
 unfold tkE
 split
 ·exact .inr rfl
 ·exact FM _
def tkS (r:List UInt8):Nat->List UInt8
 |0=>r
 |t+1=>tkR (tkS r t)
def tkG (r:List UInt8)(t:Nat):Nat:=tkA (tkS r t)
theorem NT (r:List UInt8): ∀t,(∀s,s<t->tkE (tkS r s)=0)->r=xmT (tkG r) t++tkS r t/\ ∀s,s<t->tkG r s<2^256
 |0,_=>⟨rfl,fun s hs=>absurd hs (by omega)⟩
 |t+1,h=>by
  obtain⟨h1,h2⟩:=NT r t (fun s hs=>h s (by omega));have e:tkN (tkS r t)=some (tkA (tkS r t),tkR (tkS r t)):=by rw[Dg,j_ (h t (by omega))]
  obtain⟨h3,h4⟩:=zZ e;refine⟨?_,fun s hs=>?_⟩
  ·show r=xmT (tkG r) t++xmN (tkA (tkS r t))++tkR (tkS r t)
   rw[dL0,<-h3,<-h1]
  ·by_cases hst:s=t
   ·subst hst;exact h4
   ·exact h2 s (by omega)
theorem OQ {P:Program}{fn:Func}{R:Ending->World->Prop}{a:Act}{w:World}{p u x:Tmp}{ty:TypeId}(hf:fn.results=#[.cell p ty,.tmp u,.tmp x])(g:Nat)(hp:a.tmps.getD p undef= .pointer (some ⟨g,0,none⟩))
  {t:TypeId}{cs:Array Value}(hr:Row w g cs t)(n:Nat)(e:TypeId)(hu:P.underlying ty=some (.array n e))(hi:(P.info? ty).map (·.size)=some cs.size)(v:Value)(hv:a.tmps.getD u undef=v)(y:Value)(hy:a.tmps.getD x undef=y)(hd:a.defers=[])
  (h:R (.returned (.tuple #[.agg cs,v,y])) w):bodyPost P fn R .ret a w:=by
 refine eM0 (v:=.tuple #[.agg cs,v,y]) ?_ hd h;have h1:=cB0 w g t ty cs (0,0) _ hr hu rfl hi;rw[cU0]at hp hv hy;simp[results,hf,hp,hv,hy,p_,asAddr,h1]
section
variable {P:Program}{ops:Array Oper}{Q:Exit->Act->World->Prop}{rest:List Oper}{a:Act}{w:World}{o:Oper}
theorem NU (hw:Region.wanted o (yielded ops a.tmps)=true)(t e:TypeId)(x y:Operand)(ho:o.op= .makeSlice t x y)(i:TypeInfo)(z:Value)(ht:P.underlying t=some (.slice e))(hi:P.info? e=some i)(hz:i.zero=some z)(m:Nat)(hx:a.eval x= .int .u8 m)(hy:a.eval y= .int .u8 m)
  (hcells:m*i.size<=16777216)(hbytes:i.bytes*m<=281474976710656)(h63:m<=9223372036854775807)
  (h: ∀g w',w.heap.size<=g->Row w' g (madeCells z.cells (m*i.size)) e->Kept [] w w'->PW P ops Q rest (a.put o.dst (.slice (some ⟨g,0,none⟩) m m)) w'):PW P ops Q (o::rest) a w:=by
 refine VP hw (fun g=>.slice (some ⟨g,0,none⟩) m m) e _ ?_ h
 have hb':(i.bytes:Int)*(m:Int)<=281474976710656:=by rw[<-cJ0];omega
 have hr:=fU0 (P:=P) w t e i z ht hi hz .u8 .u8 (m:Int) (m:Int) (by omega) (by omega) (by rw[q_];exact hcells) hb' (by omega);rw[q_]at hr;unfold execOp;simp only[ho,hx,hy,p_,hr,k_];rfl
end
theorem BX (l:List UInt8)(w:World)(hl:l.length<4611686018427387904):
  Calls prog 68 #[.string ⟨(l).toArray⟩] w fun e w'=>e= .returned (.tuple #[.agg (Zc (tkA l)),.string ⟨(tkR l).toArray⟩,.int .i64 (tkE l)])/\Below w.heap.size w w':=by
 have hb256:=CH l 0;obtain⟨b,hb⟩: ∃b,yb l 0=b:=⟨_,rfl⟩
 unfold tkA tkR tkE;rw[hb]at hb256 ⊢;by_cases h:l.length<=b
 ·rw[j_ h,j_ h,j_ h];by_cases h0:l.length=0
  ·clear hb
   go_enter func68,ntmps68
   have sb:=YG w;iterate 2 go_step
   refine rp ?_;refine ZT (by rfl) 57 rfl _ Zp ?_;intro g2 z0 n0 r2 k;simp only[pv];have b2:=f_ sb.size n0;clear n0;replace sb:=kk sb k;clear k;refine YP (by rfl) (.inr rfl) rfl ?_;refine p_v (.int .i64 0) (fun _=>rfl) (Zb ?_);simp only[pv];iterate 4 go_step
   refine rp ?_;refine p_m ?_;simp only[pv];refine p_v _ (VE _ _ rfl l rfl N_) ?_;simp only[pv];refine p_v _ (ZK .i64 _ _ _ _ rfl l.length 0 rfl rfl true (d_ (by omega))) ?_;refine p_m ?_;refine p_s ?_;refine p_s ?_;refine p_s ?_;simp only[pv];refine p_s ?_;refine p_s ?_;refine p_s ?_;refine p_k true (.bool true) (Zb ?_);simp only[pv];iterate 4 go_step
   refine rp ?_;refine p_v _ (ZE _ rfl _ ZA) ?_;simp only[pv];refine p_p r2 0 ?_;clear r2;intro z2001 r2 k;simp only[Act.put];replace sb:=kk sb k;clear k;refine YP (by rfl) (.inr rfl) rfl ?_;refine p_v (.int .i64 4) (fun _=>rfl) (Zb ?_);simp only[pv];go_wp2;exact OQ rfl _ rfl r2 4 _ b_ (by exact Zd) _ rfl _ rfl rfl ⟨rfl,sb⟩
  ·have h1:0<l.length:=by omega
   go_enter func68,ntmps68
   have sb:=YG w;iterate 2 go_step
   refine rp ?_;refine ZT (by rfl) 57 rfl _ Zp ?_;intro g2 z0 n0 r2 k;simp only[pv];have b2:=f_ sb.size n0;clear n0;replace sb:=kk sb k;clear k;refine YP (by rfl) (.inr rfl) rfl ?_;refine p_v (.int .i64 0) (fun _=>rfl) (Zb ?_);simp only[pv];iterate 4 go_step
   refine rp ?_;refine p_m ?_;simp only[pv];refine p_v _ (VE _ _ rfl l rfl N_) ?_;simp only[pv];refine p_v _ (ZK .i64 _ _ _ _ rfl l.length 0 rfl rfl false (e_ (by omega))) ?_;refine p_m ?_;refine p_m ?_;simp only[pv];refine p_v _ (VE _ _ rfl l rfl N_) ?_;refine p_m ?_;simp only[pv];refine p_v (.int .u8 (b:Nat)) (fun w'=>(WJ _ _ _ rfl N_ l rfl .i64 0 rfl h1 w').trans (by rw[hb])) ?_;simp only[pv];refine p_v (.int .i64 (b:Nat)) (VF _ _ _ rfl .u8 .i64 bX0 bS0 (b:Nat) _ rfl (by rw[J_];omega)) ?_;simp only[pv];refine p_v _ (Xs _ _ _ _ rfl l.length b rfl rfl true (d_ (by omega))) ?_;refine p_k false (.bool true) (Zb ?_);simp only[pv];iterate 4 go_step
   refine rp ?_;refine p_v _ (ZE _ rfl _ ZA) ?_;simp only[pv];refine p_p r2 0 ?_;clear r2;intro z2001 r2 k;simp only[Act.put];replace sb:=kk sb k;clear k;refine YP (by rfl) (.inr rfl) rfl ?_;refine p_v (.int .i64 4) (fun _=>rfl) (Zb ?_);simp only[pv];go_wp2;exact OQ rfl _ rfl r2 4 _ b_ (by exact Zd) _ rfl _ rfl rfl ⟨rfl,sb⟩
 ·rw[i_ h,i_ h,i_ h];have h1:0<l.length:=by omega
  have hnt:=fun w'=>Ib ⟨((l.take (1+b)).drop 1).toArray⟩ w'
  obtain⟨s,hs⟩: ∃s,(l.take (1+b)).drop 1=s:=⟨_,rfl⟩
  rw[hs]at hnt ⊢;generalize VB ⟨s.toArray⟩=A at*;generalize V0 ⟨s.toArray⟩=E at*
  go_enter func68,ntmps68
  have sb:=YG w;iterate 2 go_step
  refine rp ?_;refine ZT (by rfl) 57 rfl _ Zp ?_;intro g2 z0 n0 r2 k;simp only[pv];have b2:=f_ sb.size n0;clear n0;replace sb:=kk sb k;clear k;refine YP (by rfl) (.inr rfl) rfl ?_;refine p_v (.int .i64 0) (fun _=>rfl) (Zb ?_);simp only[pv];iterate 4 go_step
  refine rp ?_;refine p_m ?_;simp only[pv];refine p_v _ (VE _ _ rfl l rfl N_) ?_;simp only[pv];refine p_v _ (ZK .i64 _ _ _ _ rfl l.length 0 rfl rfl false (e_ (by omega))) ?_;refine p_m ?_;refine p_m ?_;simp only[pv];refine p_v _ (VE _ _ rfl l rfl N_) ?_;refine p_m ?_;simp only[pv];refine p_v (.int .u8 (b:Nat)) (fun w'=>(WJ _ _ _ rfl N_ l rfl .i64 0 rfl h1 w').trans (by rw[hb])) ?_;simp only[pv];refine p_v (.int .i64 (b:Nat)) (VF _ _ _ rfl .u8 .i64 bX0 bS0 (b:Nat) _ rfl (by rw[J_];omega)) ?_;simp only[pv];refine p_v _ (Xs _ _ _ _ rfl l.length b rfl rfl false (e_ (by omega))) ?_;refine p_k false (.bool false) (Zb ?_);simp only[pv];iterate 7 go_step
  refine rp ?_;refine p_m ?_;simp only[pv];refine p_v (.int .u8 (b:Nat)) (fun w'=>(WJ _ _ _ rfl N_ l rfl .i64 0 rfl h1 w').trans (by rw[hb])) ?_;simp only[pv];refine p_v (.int .i64 (b:Nat)) (VF _ _ _ rfl .u8 .i64 bX0 bS0 (b:Nat) _ rfl (by rw[J_];omega)) ?_;simp only[pv];refine p_v _ (x_a 1 b) ?_;refine p_a (Zb ?_);simp only[pv];iterate 3 go_step
  refine rp ?_;refine p_m ?_;refine p_m ?_;simp only[pv];refine p_v _ (xv _ _ _ _ N_ rfl l 1 (1+b) rfl rfl rfl (by omega) (by omega) _ hs) ?_;simp only[pv];refine p_c 121 func121 #[.string ⟨(s).toArray⟩] (hnt _) ?_;intro z4003 k;simp only[pv];replace r2:=k.ro r2;replace sb:=kk sb k;clear k;refine p_m ?_;refine p_e ?_;refine p_e ?_;simp only[pv];refine ZT (by rfl) 57 rfl _ Zp ?_;intro g6 z4007 n0 r6 k;simp only[pv];have d2x6:=l_l r2.lt n0;have b6:=f_ sb.size n0;clear n0;replace r2:=k.ro r2;replace sb:=kk sb k;clear k;refine p_p r6 A ?_;clear r6;intro z4008 r6 k;simp only[Act.put];replace r2:=k.ro r2;replace sb:=kk sb k;clear k;refine p_a (Zb ?_);simp only[pv];iterate 3 go_step
  apply Zi (by kernel_rfl) [(g2,57,Zc 0)] [_,_,_,_,_,_,_,_] ⟨r2,trivial⟩ (by simp<;>omega)
  ·intro p;refine m_l r6 ?_;refine m_m ?_;refine m_m ?_;simp only[pv];refine Ze _ (E3 _ _ _ N_ rfl l (1+b) rfl rfl (by omega)) ?_;refine m_m ?_;simp only[pv];refine m_p 0 A ?_;simp only[Act.put];refine m_a ?_;refine m_a ?_;simp only[pv];refine Zf ?_;intro w5 hkw hrw hnew hdis;have zr2:Row w5 (g2) (Zc A) 57:=hrw 0 (57,Zc A) rfl;replace sb:=kk sb hkw;clear hkw hrw hnew hdis r2;have r2:=zr2;clear zr2;go_wp2;exact OQ rfl _ rfl r2 4 _ b_ (by exact Zd) _ rfl _ rfl rfl ⟨rfl,sb⟩
  ·kernel_rfl
theorem yg {n k:Nat}(h:ccB n k=true):1<=n/\n<=25/\1<=k/\k<=7:=by
 simp only[ccB,s_,dJ0]at h;obtain⟨⟨⟨h1,h2⟩,h3⟩,h4⟩:=h;exact⟨by omega,by omega,by omega,by omega⟩
theorem Dh {l:List UInt8}(h:l.length<2∨ccB (yb l 0) (yb l 1)=false):(∀n k G,XmV n k G->l≠xmL n k G):=fun n k G hv he=>by
 subst he;obtain h|h:=h
 ·exact absurd h (by simp[xmL])
 ·have e0:yb (xmL n k G) 0=n:=by
   show(UInt8.ofNat n).toNat=n
   rw[gD0];exact g_ (by have:=hv.n2;omega)
  have e1:yb (xmL n k G) 1=k:=by
   show(UInt8.ofNat k).toNat=k
   rw[gD0];exact g_ (by have:=hv.k2;omega)
  have:=hv.n1;have:=hv.n2;have:=hv.k1;have:=hv.k2;rw[e0,e1]at h;unfold ccB at h;rw[d_ (by omega),d_ (by omega),d_ (by omega),d_ (by omega)]at h;cases h
theorem Im {l:List UInt8}(h:2<=l.length):l=UInt8.ofNat (yb l 0)::UInt8.ofNat (yb l 1)::l.drop 2:=by
 match l,h with
 |a::b::r,_=>simp[yb]
theorem In (l:List UInt8)(w:World)(hl:l.length<4611686018427387904):
  Calls prog 27 #[.string ⟨(l).toArray⟩] w fun e w'=>((∃n k G gM R,XmV n k G/\l=xmL n k G/\e= .returned (.tuple #[.slice (some ⟨gM,0,none⟩) n n,.int .i64 0])/\w.heap.size<=gM/\Row w' gM (vsC n (fun j=>.slice (some ⟨R j,0,none⟩) k k)) 22/\FamAt w' w.heap.size k R (fun a b=>G (a*k+b)) n)∨((∀n k G,XmV n k G->l≠xmL n k G)/\e= .returned (.tuple #[.slice none 0 0,.int .i64 4])))/\Below w.heap.size w w':=by
 by_cases h2:l.length<2
 ·have HN:Hid (∀n k G,XmV n k G->l≠xmL n k G):=Dh (.inl h2)
  go_enter func27,ntmps27
  have sb:=YG w;iterate 2 go_step
  refine rp ?_;refine YP (by rfl) (.inr rfl) rfl ?_;refine p_v (.int .i64 0) (fun _=>rfl) (Zb ?_);simp only[pv];iterate 4 go_step
  refine ZD (by kernel_rfl) (by kernel_rfl) ?_;refine q_m ?_;simp only[pv];refine q_v _ (VE _ _ rfl l rfl N_) ?_;simp only[pv];refine q_v _ (X4 l.length 2) ?_;refine q_m ?_;simp only[pv];refine ZI (by rfl) ?_;simp only[pv];refine ZI (by rfl) ?_;simp only[pv];refine ZI (by rfl) ?_;simp only[pv];refine ZI (by rfl) ?_;simp only[pv];refine ZI (by rfl) ?_;simp only[pv];refine ZI (by rfl) ?_;simp only[pv];refine ZI (by rfl) ?_;simp only[pv];refine ZI (by rfl) ?_;refine q_p true (.bool true) ?_;simp only[pv];refine ZR ?_;intro w1 hqb;replace sb:=b_o sb hqb;clear hqb;iterate 4 go_step
  refine rp ?_;refine YP (by rfl) (.inr rfl) rfl ?_;refine p_v (.int .i64 4) (fun _=>rfl) (Zb ?_);simp only[pv];go_wp2;go_ret2;exact⟨.inr ⟨HN.out,rfl⟩,sb⟩
 have hlt0:=CH l 0;have hlt1:=CH l 1;have HX:=Im (l:=l) (by omega);have HF:ccB (yb l 0) (yb l 1)=false->(∀n k G,XmV n k G->l≠xmL n k G):=fun h=>Dh (.inr h)
 obtain⟨n,h0⟩: ∃n,yb l 0=n:=⟨_,rfl⟩
 obtain⟨k,h1⟩: ∃k,yb l 1=k:=⟨_,rfl⟩
 rw[h0]at hlt0 HX HF;rw[h1]at hlt1 HX HF;have hcc:=fun w'=>XJ n k w'
 cases hB:ccB n k
 ·rw[hB]at hcc;have HN:Hid (∀n k G,XmV n k G->l≠xmL n k G):=HF hB;clear HF HX hB
  go_enter func27,ntmps27
  have sb:=YG w;iterate 2 go_step
  refine rp ?_;refine YP (by rfl) (.inr rfl) rfl ?_;refine p_v (.int .i64 0) (fun _=>rfl) (Zb ?_);simp only[pv];iterate 4 go_step
  refine ZD (by kernel_rfl) (by kernel_rfl) ?_;refine q_m ?_;simp only[pv];refine q_v _ (VE _ _ rfl l rfl N_) ?_;simp only[pv];refine q_v _ (Xe l.length 2) ?_;refine q_m ?_;refine q_m ?_;simp only[pv];refine q_v (.int .u8 (n:Nat)) (fun w'=>(WJ _ _ _ rfl N_ l rfl .i64 0 rfl (by omega) w').trans (by rw[h0])) ?_;simp only[pv];refine q_v (.int .i64 (n:Nat)) (VF _ _ _ rfl .u8 .i64 bX0 bS0 (n:Nat) _ rfl (by rw[J_];omega)) ?_;refine q_m ?_;simp only[pv];refine q_v (.int .u8 (k:Nat)) (fun w'=>(WJ _ _ _ rfl N_ l rfl .i64 1 rfl (by omega) w').trans (by rw[h1])) ?_;simp only[pv];refine q_v (.int .i64 (k:Nat)) (VF _ _ _ rfl .u8 .i64 bX0 bS0 (k:Nat) _ rfl (by rw[J_];omega)) ?_;simp only[pv];refine q_c 33 iF0 #[.int .i64 (n:Nat),.int .i64 (k:Nat)] hcc ?_;simp only[pv];refine q_v _ (Zz _ _ rfl false rfl) ?_;refine q_p false (.bool true) ?_;simp only[pv];refine ZR ?_;intro w1 hqb;replace sb:=b_o sb hqb;clear hqb;iterate 4 go_step
  refine rp ?_;refine YP (by rfl) (.inr rfl) rfl ?_;refine p_v (.int .i64 4) (fun _=>rfl) (Zb ?_);simp only[pv];go_wp2;go_ret2;exact⟨.inr ⟨HN.out,rfl⟩,sb⟩
 obtain⟨n1,n2,k1,k2⟩:=yg hB;rw[hB]at hcc;clear HF hB;obtain⟨r0,hr⟩: ∃r0,l.drop 2=r0:=⟨_,rfl⟩
 rw[hr]at HX
 have HNo:Hid (∀t,t<n*k->(∀s,s<t->tkE (tkS r0 s)=0)->tkE (tkS r0 t)=4->(∀n k G,XmV n k G->l≠xmL n k G)):=fun t ht hs hE n' k' G' hv=>by
  obtain⟨e1,e2⟩:=NT r0 t hs;exact xN (n:=n) (k:=k) (t:=t) (G:=tkG r0) (r:=tkS r0 t) (by omega) (by omega) (by rw[<-e1];exact HX) e2 ht (by rw[Dg,hE];rfl) hv
 have HRe:Hid ((∀s,s<n*k->tkE (tkS r0 s)=0)->tkS r0 (n*k)≠[]->(∀n k G,XmV n k G->l≠xmL n k G)):=fun hs hE n' k' G' hv=>by
  obtain⟨e1,e2⟩:=NT r0 (n*k) hs;exact BV (n:=n) (k:=k) (G:=tkG r0) (r:=tkS r0 (n*k)) (by omega) (by omega) (by rw[<-e1];exact HX) e2 hE hv
 have HOk:Hid ((∀s,s<n*k->tkE (tkS r0 s)=0)->tkS r0 (n*k)=[]->XmV n k (tkG r0)/\l=xmL n k (tkG r0)):=fun hs hE=>by
  obtain⟨e1,e2⟩:=NT r0 (n*k) hs;rw[hE,dP0]at e1;exact⟨⟨n1,n2,k1,k2,e2⟩,by rw[HX];unfold xmL;rw[<-e1]⟩
 have HLr:Hid (∀t,(tkS r0 t).length<4611686018427387904):=fun t=>by
  induction t with
  |zero=>show r0.length<_;rw[<-hr,cG0];omega
  |succ t ih=>
   show(tkR (tkS r0 t)).length<_
   unfold tkR
   split
   ·decide
   ·rw[cG0];omega
 clear HX;obtain⟨ie,hie,hze,hsz,hby⟩:=Yn;obtain⟨is',his,hzs,hszs,hbys⟩:=Tf
 go_enter func27,ntmps27
 have sb:=YG w;iterate 2 go_step
 refine rp ?_;refine YP (by rfl) (.inr rfl) rfl ?_;refine p_v (.int .i64 0) (fun _=>rfl) (Zb ?_);simp only[pv];iterate 4 go_step
 refine ZD (by kernel_rfl) (by kernel_rfl) ?_;refine q_m ?_;simp only[pv];refine q_v _ (VE _ _ rfl l rfl N_) ?_;simp only[pv];refine q_v _ (Xe l.length 2) ?_;refine q_m ?_;refine q_m ?_;simp only[pv];refine q_v (.int .u8 (n:Nat)) (fun w'=>(WJ _ _ _ rfl N_ l rfl .i64 0 rfl (by omega) w').trans (by rw[h0])) ?_;simp only[pv];refine q_v (.int .i64 (n:Nat)) (VF _ _ _ rfl .u8 .i64 bX0 bS0 (n:Nat) _ rfl (by rw[J_];omega)) ?_;refine q_m ?_;simp only[pv];refine q_v (.int .u8 (k:Nat)) (fun w'=>(WJ _ _ _ rfl N_ l rfl .i64 1 rfl (by omega) w').trans (by rw[h1])) ?_;simp only[pv];refine q_v (.int .i64 (k:Nat)) (VF _ _ _ rfl .u8 .i64 bX0 bS0 (k:Nat) _ rfl (by rw[J_];omega)) ?_;simp only[pv];refine q_c 33 iF0 #[.int .i64 (n:Nat),.int .i64 (k:Nat)] hcc ?_;simp only[pv];refine q_v _ (Zz _ _ rfl true rfl) ?_;refine q_p false (.bool false) ?_;simp only[pv];refine ZR ?_;intro w1 hqb;replace sb:=b_o sb hqb;clear hqb;clear hcc;iterate 7 go_step
 refine rp ?_;refine p_m ?_;simp only[pv];refine p_v (.string ⟨(r0).toArray⟩) (fun w'=>(E3 _ _ _ N_ rfl l 2 rfl rfl (by omega) w').trans (by rw[hr])) ?_;refine p_a (Zb ?_);simp only[pv];iterate 3 go_step
 refine rp ?_;refine p_m ?_;simp only[pv];refine p_v (.int .u8 (n:Nat)) (fun w'=>(WJ _ _ _ rfl N_ l rfl .i64 0 rfl (by omega) w').trans (by rw[h0])) ?_;simp only[pv];refine NU (by rfl) 31 22 _ _ rfl is' _ bH0 his hzs n rfl rfl (by rw[hszs];omega) (by rw[hbys];omega) (by omega) ?_;intro gM z4002 n0 rM k;simp only[pv];have bM:=f_ sb.size n0;clear n0;replace sb:=kk sb k;clear k;refine p_a (Zb ?_);simp only[pv];rw[hszs,Sc n _ rfl]at rM;iterate 4 go_step
 refine rp ?_;refine p_m ?_;simp only[pv];refine p_v _ (n_l (some ⟨gM,0,none⟩) n n WY) ?_;refine p_v (.int .i64 0) (fun _=>rfl) (Zb ?_);simp only[pv]
 go_wp2_with fail
 go_loopg [4,6,29] n (fun x s4 s6 s29 wr=> ∃i:Nat,∃R:Nat->Nat,i+x=n/\s29= .int .i64 i/\s4= .string ⟨(tkS r0 (i*k)).toArray⟩/\(∀s,s<i*k->tkE (tkS r0 s)=0)/\Row wr gM (vsC n (fun j=>if j<i then .slice (some ⟨R j,0,none⟩) k k else .slice none 0 0)) 22/\FamAt wr w.heap.size k R (fun a b=>tkG r0 (a*k+b)) i/\(∀j,j<i->R j≠gM)/\Below w.heap.size w wr)
 case atStart=>exact⟨0,fun _=>0,by omega,rfl,by rw[cD0];rfl,fun s hs=>absurd hs (by omega),by rw[YN (T:=fun _=>.slice none 0 0) (fun j _=>i_ (by omega))];exact rM,Sd _ _ _ _ _,fun j hj=>absurd hj (by omega),sb⟩
 case round=>
  clear rM sb;obtain⟨i,R,hi,rfl,rfl,hok,rM,hW,hWxM,sb⟩:=hrel
  cases gk with
  |zero=>
   have hin:n=i:=by omega
   clear hi;subst hin;rw[YN (T:=fun j=>.slice (some ⟨R j,0,none⟩) k k) (fun j hj=>j_ hj)]at rM;have HK:Hid (∀s,s<n*k->tkE (tkS r0 s)=0):=hok;clear hok HNo HLr;by_cases hE:tkS r0 (n*k)=[]
   ·obtain⟨e1,e2⟩:=HOk.out HK.out hE;have HV:Hid (XmV n k (tkG r0)):=e1;have HQ:Hid (l=xmL n k (tkG r0)):=e2;rw[hE];clear e1 e2 HRe HOk hE
    go_step
    refine rp ?_;refine p_v _ (Xe n n) (Zb ?_);simp only[pv];iterate 9 go_step
    refine rp ?_;refine p_m ?_;simp only[pv];refine p_v _ (zM _ _ _ _ rfl [] [] rfl rfl false rfl) (Zb ?_);simp only[pv];iterate 7 go_step
    refine rp ?_;refine p_m ?_;refine p_a ?_;refine p_v (.int .i64 0) (fun _=>rfl) (Zb ?_);simp only[pv];go_wp2;go_ret2;exact⟨.inl ⟨n,k,_,gM,R,HV.out,HQ.out,rfl,bM,rM,hW⟩,sb⟩
   ·have HN:Hid (∀n k G,XmV n k G->l≠xmL n k G):=HRe.out HK.out hE;clear HRe HOk;generalize tkS r0 (n*k)=L at*;have hne:decide (L=[])= !true:=e_ hE;clear hE
    go_step
    refine rp ?_;refine p_v _ (Xe n n) (Zb ?_);simp only[pv];iterate 9 go_step
    refine rp ?_;refine p_m ?_;simp only[pv];refine p_v _ (zM _ _ _ _ rfl L [] rfl rfl true hne) (Zb ?_);simp only[pv];iterate 4 go_step
    refine rp ?_;refine YP (by rfl) (.inr rfl) rfl ?_;refine p_v (.int .i64 4) (fun _=>rfl) (Zb ?_);simp only[pv];go_wp2;go_ret2;exact⟨.inr ⟨HN.out,rfl⟩,sb⟩
  |succ x=>
   have hlt:i<n:=by omega
   have hpW: ∀gN,(vsC n (fun j=>if j<i then .slice (some ⟨R j,0,none⟩) k k else .slice none 0 0)).setIfInBounds (0+i*1) (.slice (some ⟨gN,0,none⟩) k k)=vsC n (fun j=>if j<i+1 then .slice (some ⟨upR R i gN j,0,none⟩) k k else .slice none 0 0):=fun gN=>by
    rw[show 0+i*1=i by omega];refine VZ hlt ?_ (fun j hj hne=>?_)
    ·show(ite _ _ _:Value)=_
     rw[j_ (by omega),Xd]
    ·show(ite _ _ _:Value)=ite _ _ _
     by_cases h2:j<i
     ·rw[j_ h2,j_ (by omega),Y4 R h2]
     ·rw[i_ h2,i_ (by omega)]
   go_step
   refine rp ?_;refine p_v _ (X4 i n) (Zb ?_);simp only[pv];iterate 10 go_step
   refine rp ?_;refine p_m ?_;refine p_a (Zb ?_);simp only[pv];iterate 3 go_step
   refine rp ?_;refine p_m ?_;refine p_m ?_;refine p_m ?_;simp only[pv];refine p_v (.int .u8 (k:Nat)) (fun w'=>(WJ _ _ _ rfl N_ l rfl .i64 1 rfl (by omega) w').trans (by rw[h1])) ?_;simp only[pv];refine NU (by rfl) 22 57 _ _ rfl ie _ r_ hie hze k rfl rfl (by rw[hsz];omega) (by rw[hby];omega) (by omega) ?_;intro gN z8004 n0 rN k;simp only[pv];have dMxN:=l_l rM.lt n0;have hWxN:=fun j hj=>bV0 (l_ (hW.lt (j:=j) hj) n0)
   have bN:=f_ sb.size n0;clear n0;replace rM:=k.ro rM;replace hW:=hW.below k.nil;replace sb:=kk sb k;clear k;refine p_x i hlt bH0 aO0 ?_;simp only[pv];refine Xx (by rfl) 22 _ _ rfl _ (0+i*1) rfl rM (.slice (some ⟨gN,0,none⟩) k k) rfl rfl rfl Yy (by rw[Xb];omega) ((vsC n (fun j=>if j<i+1 then .slice (some ⟨upR R i gN j,0,none⟩) k k else .slice none 0 0))) (hpW gN) ?_;clear rM;intro z8006 rM k;simp only[Act.put];replace hW:=hW.on k (fun j hj=>by simpa using hWxM j hj);replace rN:=k.ro rN;replace sb:=kk sb k;clear k;refine Zb ?_;rw[hsz,Xz]at rN;clear hpW
   have hMg:(vsC n (fun j=>if j<i+1 then .slice (some ⟨upR R i gN j,0,none⟩) k k else .slice none 0 0):Array Value)[0+i*1]?=some (.slice (some ⟨gN,0,none⟩) k k):=by
    rw[show 0+i*1=i by omega,XA _ hlt,j_ (by omega),Xd]
   have hNM:gN≠gM:=by omega
   obtain⟨CM,hCM⟩: ∃CM:Array Value,CM=vsC n (fun j=>if j<i+1 then .slice (some ⟨upR R i gN j,0,none⟩) k k else .slice none 0 0):=⟨_,rfl⟩
   have HCM:Hid (CM=vsC n (fun j=>if j<i+1 then .slice (some ⟨upR R i gN j,0,none⟩) k k else .slice none 0 0)):=hCM;rw[<-hCM]at rM hMg;clear hCM;iterate 3 go_step
   refine rp ?_;refine p_m ?_;refine p_m ?_;simp only[pv];refine p_x i hlt bH0 aO0 ?_;simp only[pv];refine p_d (0+i*1) rM.r (.slice (some ⟨gN,0,none⟩) k k) hMg aD0 ?_;simp only[pv];refine p_v _ (n_l (some ⟨gN,0,none⟩) k k Zm) ?_;refine p_v (.int .i64 0) (fun _=>rfl) (Zb ?_);simp only[pv]
   go_wp2_with fail
   go_loopg [4,7,43] k (fun y s4 s7 s43 wr=> ∃j:Nat,j+y=k/\s43= .int .i64 j/\s4= .string ⟨(tkS r0 (i*k+j)).toArray⟩/\(∀s,s<i*k+j->tkE (tkS r0 s)=0)/\Row wr gM CM 22/\Row wr gN (nsC k (fun b=>if b<j then tkG r0 (i*k+b)else 0)) 57/\FamAt wr w.heap.size k R (fun a b=>tkG r0 (a*k+b)) i/\Below w.heap.size w wr)
   case atStart=>exact⟨0,by omega,rfl,rfl,hok,rM,by rw[show(fun b=>if b<0 then tkG r0 (i*k+b)else 0)=fun _=>0 from funext fun j=>i_ (by omega)];exact rN,hW,sb⟩
   case round=>
    clear rM rN hW sb hok;obtain⟨j,hj,rfl,rfl,hok,rM,rN,hW,sb⟩:=hrel
    cases gk with
    |zero=>
     have hjk:k=j:=by omega
     clear hj;subst hjk;rw[Yw k _ ((fun a b=>tkG r0 (a*k+b)) i) (fun b hb=>j_ hb)]at rN;rw[<-fE0]at hok ⊢;have hW2:=hW.add hWxN bN rN
     have hNx: ∀j,j<i+1->upR R i gN j≠gM:=fun j hj=>by
      by_cases e:j=i
      ·subst e;rw[Xd];exact hNM
      ·rw[Y4 R (show j<i by omega)];exact hWxM j (by omega)
     rw[HCM.out]at rM;clear hW hWxM hWxN rN HCM hMg hNM;generalize upR R i gN=R2 at*
     go_step
     refine rp ?_;refine p_v _ (Xe k k) (Zb ?_);simp only[pv];iterate 7 go_step
     refine rp ?_;refine p_v _ (x_a i 1) ?_;refine p_m (Zb ?_);simp only[pv];go_wp2
     go_roundg x
     case measure=>omega
     case rel=>exact⟨i+1,R2,by omega,rfl,rfl,hok,rM,hW2,hNx,sb⟩
    |succ y=>
     have hjk:j<k:=by omega
     have hij:=yd hlt hjk;have htk:=fun w'=>BX (tkS r0 (i*k+j)) w' (HLr.out _)
     rw[show tkA (tkS r0 (i*k+j))=tkG r0 (i*k+j)from rfl,show tkR (tkS r0 (i*k+j))=tkS r0 (i*k+(j+1))from rfl]at htk
     have hput:=Wa k (fun b=>if b<j then tkG r0 (i*k+b)else 0) (fun b=>if b<j+1 then tkG r0 (i*k+b)else 0) j hjk (0+j*4) (by omega) (tkG r0 (i*k+j)) (fun b hb=>by
      by_cases hbj:b=j
      ·subst hbj;rw[j_ (by omega),j_ rfl]
      ·rw[i_ hbj];by_cases h2:b<j
       ·rw[j_ h2,j_ (by omega)]
       ·rw[i_ h2,i_ (by omega)])
     have hE:=yf (tkS r0 (i*k+j));have HNx:Hid (tkE (tkS r0 (i*k+j))=4->(∀n k G,XmV n k G->l≠xmL n k G)):=HNo.out _ hij hok
     have HOx:Hid (tkE (tkS r0 (i*k+j))=0-> ∀s,s<i*k+(j+1)->tkE (tkS r0 s)=0):=fun h s hs=>by
      by_cases e:s=i*k+j
      ·rw[e];exact h
      ·exact hok s (by omega)
     clear hok;obtain⟨L2,hL2⟩: ∃L2,L2=tkS r0 (i*k+(j+1)):=⟨_,rfl⟩
     rw[<-hL2]at htk;obtain⟨L1,hL1⟩: ∃L1,tkS r0 (i*k+j)=L1:=⟨_,rfl⟩
     rw[hL1]at htk hE HNx HOx ⊢;obtain⟨E,hEE⟩: ∃E,tkE L1=E:=⟨_,rfl⟩
     rw[hEE]at htk hE HNx HOx;obtain⟨X,hX⟩: ∃X,tkG r0 (i*k+j)=X:=⟨_,rfl⟩
     rw[hX]at htk hput;clear hEE hL1 hX;obtain rfl|rfl:=hE
     ·have HO2:=HOx.out rfl;have HO:Hid (∀s,s<i*k+(j+1)->tkE (tkS r0 s)=0):=HO2;clear HO2 HOx HNx
      go_step
      refine rp ?_;refine p_v _ (X4 j k) (Zb ?_);simp only[pv];iterate 10 go_step
      refine rp ?_;refine p_m ?_;refine p_a (Zb ?_);simp only[pv];iterate 3 go_step
      refine rp ?_;refine p_v (.int .i64 0) (fun _=>rfl) (Zb ?_);simp only[pv];iterate 3 go_step
      apply Zi (by kernel_rfl) [(gN,57,nsC k (fun b=>if b<j then tkG r0 (i*k+b)else 0))] [_,_,_,_,_,_,_,_,_,_,_,_,_,_,_] ⟨rN,trivial⟩ (by simp<;>omega)
      ·intro p;refine m_m ?_;refine m_m ?_;simp only[pv];refine m_x i hlt bH0 aO0 ?_;simp only[pv];refine Zs 22 _ rfl _ (0+i*1) rfl rM (by simp<;>omega) (.slice (some ⟨gN,0,none⟩) k k) hMg aD0 ?_;refine m_m ?_;refine m_m ?_;simp only[pv];refine m_c 68 func68 #[.string ⟨(L1).toArray⟩] htk ?_;refine m_m ?_;refine m_e ?_;refine m_e ?_;refine m_e ?_;simp only[pv];refine m_x j hjk r_ ZC ?_;simp only[pv];refine VK 0 57 _ _ rfl (0+j*4) rfl rfl (Zc X) rfl (by exact Zd) (by rw[ZZ,Zo];omega) (Zu _) (nsC k (fun b=>if b<j+1 then tkG r0 (i*k+b)else 0)) hput ?_;simp only[Act.put];refine m_a ?_;refine m_a ?_;simp only[pv];refine Zf ?_;intro w2 hkw hrw hnew hdis;have rN2:Row w2 gN (nsC k (fun b=>if b<j+1 then tkG r0 (i*k+b)else 0)) 57:=hrw 0 (57,nsC k (fun b=>if b<j+1 then tkG r0 (i*k+b)else 0)) rfl;replace rM:=hkw.ro rM;replace hW:=hW.on hkw (fun a ha=>by simpa using hWxN a ha);replace sb:=kk sb hkw;clear hkw hrw hnew hdis rN hput htk;iterate 3 go_step
       refine rp ?_;refine p_m ?_;simp only[pv];refine p_v _ (ZX .i64 _ _ _ _ rfl 0 0 rfl rfl false rfl) (Zb ?_);simp only[pv];iterate 6 go_step
       refine rp ?_;refine p_v _ (x_a j 1) ?_;refine p_m (Zb ?_);simp only[pv];go_wp2
       go_roundg y
       case measure=>omega
       case rel=>exact⟨j+1,by omega,rfl,by rw[hL2],HO.out,rM,rN2,hW,sb⟩
      ·kernel_rfl
     ·have HN:Hid (∀n k G,XmV n k G->l≠xmL n k G):=HNx.out rfl;clear HOx HNx
      go_step
      refine rp ?_;refine p_v _ (X4 j k) (Zb ?_);simp only[pv];iterate 10 go_step
      refine rp ?_;refine p_m ?_;refine p_a (Zb ?_);simp only[pv];iterate 3 go_step
      refine rp ?_;refine p_v (.int .i64 0) (fun _=>rfl) (Zb ?_);simp only[pv];iterate 3 go_step
      apply Zi (by kernel_rfl) [(gN,57,nsC k (fun b=>if b<j then tkG r0 (i*k+b)else 0))] [_,_,_,_,_,_,_,_,_,_,_,_,_,_,_] ⟨rN,trivial⟩ (by simp<;>omega)
      ·intro p;refine m_m ?_;refine m_m ?_;simp only[pv];refine m_x i hlt bH0 aO0 ?_;simp only[pv];refine Zs 22 _ rfl _ (0+i*1) rfl rM (by simp<;>omega) (.slice (some ⟨gN,0,none⟩) k k) hMg aD0 ?_;refine m_m ?_;refine m_m ?_;simp only[pv];refine m_c 68 func68 #[.string ⟨(L1).toArray⟩] htk ?_;refine m_m ?_;refine m_e ?_;refine m_e ?_;refine m_e ?_;simp only[pv];refine m_x j hjk r_ ZC ?_;simp only[pv];refine VK 0 57 _ _ rfl (0+j*4) rfl rfl (Zc X) rfl (by exact Zd) (by rw[ZZ,Zo];omega) (Zu _) (nsC k (fun b=>if b<j+1 then tkG r0 (i*k+b)else 0)) hput ?_;simp only[Act.put];refine m_a ?_;refine m_a ?_;simp only[pv];refine Zf ?_;intro w2 hkw hrw hnew hdis;have rN2:Row w2 gN (nsC k (fun b=>if b<j+1 then tkG r0 (i*k+b)else 0)) 57:=hrw 0 (57,nsC k (fun b=>if b<j+1 then tkG r0 (i*k+b)else 0)) rfl;replace rM:=hkw.ro rM;replace hW:=hW.on hkw (fun a ha=>by simpa using hWxN a ha);replace sb:=kk sb hkw;clear hkw hrw hnew hdis rN hput htk;iterate 3 go_step
       refine rp ?_;refine p_m ?_;simp only[pv];refine p_v _ (ZX .i64 _ _ _ _ rfl 4 0 rfl rfl true rfl) (Zb ?_);simp only[pv];iterate 4 go_step
       refine rp ?_;refine YP (by rfl) (.inr rfl) rfl ?_;refine p_v (.int .i64 4) (fun _=>rfl) (Zb ?_);simp only[pv];go_wp2;go_ret2;exact⟨.inr ⟨HN.out,rfl⟩,sb⟩
      ·kernel_rfl
def ptC (i:Int)(v:Value):Array Value:=#[.int .i64 i,v]
theorem Io:(prog.info? 64).map (fun i=>(i.zero,i.size))=some (some (.agg (ptC 0 (.slice none 0 0))),2):=by kernel_rfl
theorem Ip (w:World):(zeroValue 64).run prog w= .ok (.agg (ptC 0 (.slice none 0 0))) w:=(Q_ Io).1 w
theorem XB:(prog.info? 64).map (·.size)=some 2:=(Q_ Io).2
theorem NV (i:Int)(ab:Option Addr)(n c:Nat):(ptC i (.slice ab n c)).all (·.oneCell')=true:=by simp[ptC,Value.oneCell']
theorem NW (i:Int)(ab:Option Addr)(n c:Nat):prog.built 64 [(0,.int .i64 i),(1,.slice ab n c)]=some (ptC i (.slice ab n c)):=by kernel_rfl
theorem Iq (v:Option Addr)(ab ai:Option Addr)(n c k nk ck t g1 g2 g3:Nat)(S:Nat->Value)(gb ob:Nat)(bcs:Array Value)(tb:TypeId)(b B:Bool)(w:World)(hk:k<n)(ht:t<1000)(hb:decide ((nk:Int)=((t+1:Nat):Int))=b)(hSk:S k= .slice ai nk ck)(r1:Row w g1 #[.slice ab n c] 31)(r2:Row w g2 #[.int .i64 t] 3)(r3:Row w g3 #[.pointer v] 25)(hna:VsAt w ab n S gb ob bcs tb)
  (hma: ∀w',Below w.heap.size w w'->Calls prog 67 #[.pointer v,.slice ai nk ck] w' (Rt (.bool B) w')):
  Calls prog 66 #[.int .i64 k,.pointer (some ⟨g1,0,none⟩),.pointer (some ⟨g2,0,none⟩),.pointer (some ⟨g3,0,none⟩)] w fun e w'=>e= .returned (.bool (b&&B))/\Below w.heap.size w w':=by
 obtain h0|⟨rfl,rB,hbt⟩:=hna.at'
 ·exact absurd h0 (by omega)
 have hbk:=hbt k hk;rw[hSk]at hbk;clear hbt hna;cases b
 ·show Calls _ _ _ _ fun e w'=>e= .returned (.bool false)/\_
  go_enter func66,ntmps66
  have sb:=YG w;iterate 2 go_step
  refine rp ?_;refine p_v (.bool false) (fun _=>rfl) (Zb ?_);simp only[pv];iterate 3 go_step
  refine ZD (by kernel_rfl) (by kernel_rfl) ?_;refine ZS (by rfl) 31 _ rfl _ (0) rfl r1 (.slice (some ⟨gb,ob,none⟩) n c) rfl fH0 ?_;refine q_m ?_;simp only[pv];refine q_x k hk bH0 aO0 ?_;simp only[pv];refine Ym (by rfl) 22 _ rfl _ (ob+k*1) rfl rB (.slice ai nk ck) hbk aD0 ?_;simp only[pv];refine q_v _ (n_l ai nk ck Zm) ?_;simp only[pv];refine ZS (by rfl) 3 _ rfl _ (0) rfl r2 (.int .i64 t) rfl bG0 ?_;simp only[pv];refine q_v _ (x_a t 1) ?_;simp only[pv];refine q_v _ (ZK .i64 _ _ _ _ rfl nk (t+1:Nat) rfl rfl false hb) ?_;refine q_m ?_;simp only[pv];refine ZI (by rfl) ?_;simp only[pv];refine ZI (by rfl) ?_;simp only[pv];refine ZI (by rfl) ?_;simp only[pv];refine ZI (by rfl) ?_;simp only[pv];refine ZI (by rfl) ?_;simp only[pv];refine ZI (by rfl) ?_;refine q_p false (.bool false) ?_;refine q_a ?_;simp only[pv];refine ZR ?_;intro w3 hqb;replace sb:=b_o sb hqb;clear hqb;go_wp2;go_ret;exact⟨rfl,sb⟩
 ·show Calls _ _ _ _ fun e w'=>e= .returned (.bool B)/\_
  go_enter func66,ntmps66
  have sb:=YG w;iterate 2 go_step
  refine rp ?_;refine p_v (.bool false) (fun _=>rfl) (Zb ?_);simp only[pv];iterate 3 go_step
  refine ZD (by kernel_rfl) (by kernel_rfl) ?_;refine ZS (by rfl) 31 _ rfl _ (0) rfl r1 (.slice (some ⟨gb,ob,none⟩) n c) rfl fH0 ?_;refine q_m ?_;simp only[pv];refine q_x k hk bH0 aO0 ?_;simp only[pv];refine Ym (by rfl) 22 _ rfl _ (ob+k*1) rfl rB (.slice ai nk ck) hbk aD0 ?_;simp only[pv];refine q_v _ (n_l ai nk ck Zm) ?_;simp only[pv];refine ZS (by rfl) 3 _ rfl _ (0) rfl r2 (.int .i64 t) rfl bG0 ?_;simp only[pv];refine q_v _ (x_a t 1) ?_;simp only[pv];refine q_v _ (ZK .i64 _ _ _ _ rfl nk (t+1:Nat) rfl rfl true hb) ?_;refine q_m ?_;simp only[pv];refine ZS (by rfl) 25 _ rfl _ (0) rfl r3 (.pointer v) rfl eL0 ?_;simp only[pv];refine ZS (by rfl) 31 _ rfl _ (0) rfl r1 (.slice (some ⟨gb,ob,none⟩) n c) rfl fH0 ?_;refine q_m ?_;simp only[pv];refine q_x k hk bH0 aO0 ?_;simp only[pv];refine Ym (by rfl) 22 _ rfl _ (ob+k*1) rfl rB (.slice ai nk ck) hbk aD0 ?_;simp only[pv];refine q_k 67 func67 #[.pointer v,.slice ai nk ck] (fun w' hb=>hma w' (Zk sb (c_ _) hb)) ?_;refine q_p true (.bool B) ?_;refine q_a ?_;simp only[pv];refine ZR ?_;intro w3 hqb;replace sb:=b_o sb hqb;clear hqb;go_wp2;go_ret;exact⟨rfl,sb⟩
theorem FN (v:Option Addr)(ab:Option Addr)(n c t:Nat)(S:Nat->Value)(gb ob:Nat)(bcs:Array Value)(tb:TypeId)(N:Nat->Nat)(MB:Nat->Bool)(w:World)(h1:1<=t)(h2:t<=2)(h:ccB n ((t+1:Nat):Int)=true)(hna:VsAt w ab n S gb ob bcs tb)
  (hS: ∀k,k<n-> ∃ai ci,S k= .slice ai (N k) ci/\ ∀w',Below w.heap.size w w'->Calls prog 67 #[.pointer v,.slice ai (N k) ci] w' (Rt (.bool (MB k)) w')):
  Calls prog 26 #[.pointer v,.int .i64 (t:Nat),.slice ab n c] w fun e w'=>e= .returned (.bool (!anB (fun k=> !(decide ((N k:Int)=((t+1:Nat):Int))&&MB k)) n))/\Below w.heap.size w w':=by
 have hl:=fun w'=>Wy t w'
 rw[show lrB t=true by unfold lrB;rw[d_ (by omega),d_ (by omega)];rfl]at hl;have hc:=fun w'=>XJ n ((t+1:Nat):Int) w'
 rw[h]at hc
 have hn:n<4611686018427387904:=by
  simp only[ccB,s_,dJ0]at h;omega
 have har:=fun w' g3 g4 g5 (hb:Below w.heap.size w w') (r3:Row w' g3 #[.pointer v] 25) (r4:Row w' g4 #[.int .i64 t] 3) (r5:Row w' g5 #[.slice ab n c] 31)=>So ab n c 66 #[.pointer (some ⟨g5,0,none⟩),.pointer (some ⟨g4,0,none⟩),.pointer (some ⟨g3,0,none⟩)] (fun k=>decide ((N k:Int)=((t+1:Nat):Int))&&MB k) w' func66 (by kernel_rfl) hn (fun k hk w2 hb2=>by
  obtain⟨ai,ci,e,hm⟩:=hS k hk
  exact Iq v ab ai n c k (N k) ci t g5 g4 g3 S gb ob bcs tb _ (MB k) w2 hk (by omega) rfl e (r5.belowAll hb2) (r4.belowAll hb2) (r3.belowAll hb2) (hna.below (Zk hb (c_ _) hb2)) (fun w3 hb3=>hm w3 (Zk (Zk hb (c_ _) hb2) (c_ _) hb3)))
 clear hS hna
 go_enter func26,ntmps26
 have sb:=YG w;iterate 2 go_step
 refine rp ?_;refine Ye (by rfl) 25 _ rfl (.pointer v) rfl rfl ?_;intro g3 z0 n0 r3 k;simp only[pv];clear n0;replace sb:=kk sb k;clear k;refine Ye (by rfl) 3 _ rfl (.int .i64 (t:Nat)) rfl rfl ?_;intro g4 z1 n0 r4 k;simp only[pv];clear n0;replace r3:=k.ro r3;replace sb:=kk sb k;clear k;refine Ye (by rfl) 31 _ rfl (.slice ab n c) rfl rfl ?_;intro g5 z2 n0 r5 k;simp only[pv];clear n0;replace r3:=k.ro r3;replace r4:=k.ro r4;replace sb:=kk sb k;clear k;refine p_v (.bool false) (fun _=>rfl) (Zb ?_);simp only[pv];iterate 4 go_step
 refine rp ?_;refine p_d 0 r4.r (.int .i64 (t:Nat)) rfl bG0 ?_;simp only[pv];refine p_c 32 func32 #[.int .i64 (t:Nat)] (hl _) ?_;intro z1001 k;simp only[pv];replace r3:=k.ro r3;replace r4:=k.ro r4;replace r5:=k.ro r5;replace sb:=kk sb k;clear k;refine p_v _ (Zz _ _ rfl true rfl) ?_;refine p_m ?_;simp only[pv];refine p_d 0 r5.r (.slice ab n c) rfl fH0 ?_;simp only[pv];refine p_v _ (n_l ab n c WY) ?_;simp only[pv];refine p_d 0 r4.r (.int .i64 (t:Nat)) rfl bG0 ?_;simp only[pv];refine p_v _ (x_a t 1) ?_;simp only[pv];refine p_c 33 iF0 #[.int .i64 n,.int .i64 ((t+1:Nat):Int)] (hc _) ?_;intro z1008 k;simp only[pv];replace r3:=k.ro r3;replace r4:=k.ro r4;replace r5:=k.ro r5;replace sb:=kk sb k;clear k;refine p_v _ (Zz _ _ rfl true rfl) ?_;refine p_k false (.bool false) (Zb ?_);simp only[pv];iterate 7 go_step
 refine rp ?_;refine p_d 0 r5.r (.slice ab n c) rfl fH0 ?_;simp only[pv];refine p_v (.func (.func 66) #[] #[.pointer (some ⟨g5,0,none⟩),.pointer (some ⟨g4,0,none⟩),.pointer (some ⟨g3,0,none⟩)]) (Yr _ _ rfl _ rfl) ?_;simp only[pv];refine p_c 59 func59 #[.slice ab n c,.func (.func 66) #[] #[.pointer (some ⟨g5,0,none⟩),.pointer (some ⟨g4,0,none⟩),.pointer (some ⟨g3,0,none⟩)]] (har _ g3 g4 g5 sb r3 r4 r5) ?_;intro z3002 k;simp only[pv];replace r3:=k.ro r3;replace r4:=k.ro r4;replace r5:=k.ro r5;replace sb:=kk sb k;clear k;refine p_a (Zb ?_);simp only[pv];go_wp2;go_ret;exact⟨rfl,sb⟩
theorem FP (i:Int)(ay:Option Addr)(ny cy k:Nat)(Y:Nat->Nat)(gy oy:Nat)(ycs:Array Value)(ty:TypeId)(w:World)(hk:k<ny)(hY:NatsAt w ay ny Y gy oy ycs ty):
  Calls prog 62 #[.agg (ptC i (.slice ay ny cy)),.int .i64 k] w fun e w'=>e= .returned (.agg (shC i (Y k)))/\Below w.heap.size w w':=by
 obtain h0|⟨rfl,rY,hbt⟩:=hY.at'
 ·exact absurd h0 (by omega)
 have hbk:=hbt k hk;have HR:Hid (WV w gy ycs ty):=rY;have hyl:=rY.lt;clear hbt hY rY
 go_enter func62,ntmps62
 have sb:=YG w;iterate 2 go_step
 refine rp ?_;refine ZO (by rfl) 64 _ rfl (ptC i (.slice (some ⟨gy,oy,none⟩) ny cy)) rfl ?_;intro g2 z0 n0 r2 k;simp only[pv];clear n0;replace sb:=kk sb k;clear k;refine ZT (by rfl) 111 rfl _ Bv ?_;intro g4 z1 n0 r4 k;simp only[pv];have d2x4:=l_l r2.lt n0;have b4:=f_ sb.size n0;clear n0;replace r2:=k.ro r2;replace sb:=kk sb k;clear k;refine Zb ?_;have rY:=HR.out.belowAll sb;iterate 3 go_step
 apply Zi (by kernel_rfl) [(g4,111,shC 0 0)] [_,_,_,_,_,_,_,_,_] ⟨r4,trivial⟩ (by simp<;>omega)
 ·intro p;refine Ze _ (Zh 64 _ 0 rfl g2 (0) rfl _ aG0 _ rfl 0 aJ0) ?_;simp only[pv];refine Zs 3 _ rfl _ (0) rfl r2 (by simp<;>omega) (.int .i64 i) rfl bG0 ?_;simp only[pv];refine Ze _ (Zh 64 _ 1 rfl g2 (0) rfl _ aG0 _ rfl 0 aO0) ?_;simp only[pv];refine Zs 22 _ rfl _ (0+1) rfl r2 (by simp<;>omega) (.slice (some ⟨gy,oy,none⟩) ny cy) rfl aD0 ?_;refine m_m ?_;simp only[pv];refine m_x k hk r_ ZC ?_;simp only[pv];refine Yj 57 _ rfl _ (oy+k*4) rfl rY (by simp<;>omega) (Zc (Y k)) hbk _ b_ rfl Zd ?_;simp only[pv];refine Ze _ (Z3 _ [(0,.tmp 6),(1,.tmp 11)] rfl [(0,.int .i64 i),(1,.agg (Zc (Y k)))] rfl (shC i (Y k)) (Fe _ _)) ?_;simp only[pv];refine Xc 0 111 _ _ rfl rfl rfl (shC i (Y k)) rfl (by exact JU) (by rfl) (zQ _ _) ?_;simp only[Act.put];refine Zf ?_;intro w5 hkw hrw hnew hdis;have zr4:Row w5 (g4) (shC i (Y k)) 111:=hrw 0 (111,shC i (Y k)) rfl;replace sb:=kk sb hkw;clear hkw hrw hnew hdis r4;have r4:=zr4;clear zr4;go_wp2;exact XL rfl _ rfl r4 _ bN0 JU rfl ⟨rfl,sb⟩
 ·kernel_rfl
theorem FQ (v:Option Addr)(ab ai:Option Addr)(n c k nk ck g1 g2 g3:Nat)(S:Nat->Value)(gb ob:Nat)(bcs:Array Value)(tb:TypeId)(i:Int)(ay:Option Addr)(ny cy:Nat)(Y:Nat->Nat)(gy oy:Nat)(ycs:Array Value)(ty:TypeId)(B:Bool)(w:World)(hk:k<n)(hky:k<ny)(hSk:S k= .slice ai nk ck)(r1:Row w g1 #[.pointer v] 25)(r2:Row w g2 #[.slice ab n c] 31)(r3:Row w g3 (ptC i (.slice ay ny cy)) 64)(hna:VsAt w ab n S gb ob bcs tb)(hY:NatsAt w ay ny Y gy oy ycs ty)
  (hho: ∀w',Below w.heap.size w w'->Calls prog 61 #[.pointer v,.slice ai nk ck,.agg (shC i (Y k))] w' (Rt (.bool B) w')):
  Calls prog 60 #[.int .i64 k,.pointer (some ⟨g1,0,none⟩),.pointer (some ⟨g2,0,none⟩),.pointer (some ⟨g3,0,none⟩)] w fun e w'=>e= .returned (.bool B)/\Below w.heap.size w w':=by
 obtain h0|⟨rfl,rB,hbt⟩:=hna.at'
 ·exact absurd h0 (by omega)
 have hbk:=hbt k hk;rw[hSk]at hbk;clear hbt hna;have hsh:=fun w' (hb:Below w.heap.size w w')=>FP i ay ny cy k Y gy oy ycs ty w' hky (hY.below hb)
 clear hY
 go_enter func60,ntmps60
 have sb:=YG w;iterate 2 go_step
 refine rp ?_;refine p_v (.bool false) (fun _=>rfl) (Zb ?_);simp only[pv];iterate 3 go_step
 refine ZD (by kernel_rfl) (by kernel_rfl) ?_;refine ZS (by rfl) 25 _ rfl _ (0) rfl r1 (.pointer v) rfl eL0 ?_;simp only[pv];refine ZS (by rfl) 31 _ rfl _ (0) rfl r2 (.slice (some ⟨gb,ob,none⟩) n c) rfl fH0 ?_;refine q_m ?_;simp only[pv];refine q_x k hk bH0 aO0 ?_;simp only[pv];refine Ym (by rfl) 22 _ rfl _ (ob+k*1) rfl rB (.slice ai nk ck) hbk aD0 ?_;simp only[pv];refine YJ (by rfl) 64 _ rfl _ (0) rfl r3 (ptC i (.slice ay ny cy)) (Yi _) _ aG0 rfl XB ?_;refine q_m ?_;simp only[pv];refine q_k 62 func62 #[.agg (ptC i (.slice ay ny cy)),.int .i64 k] (fun w' hb=>hsh w' (Zk sb (c_ _) hb)) ?_;simp only[pv];refine q_k 61 func61 #[.pointer v,.slice ai nk ck,.agg (shC i (Y k))] (fun w' hb=>hho w' (Zk sb (c_ _) hb)) ?_;refine q_a ?_;simp only[pv];refine ZR ?_;intro w3 hqb;replace sb:=b_o sb hqb;clear hqb;go_wp2;go_ret;exact⟨rfl,sb⟩
theorem BZ (v:Option Addr)(ab:Option Addr)(n c:Nat)(S:Nat->Value)(gb ob:Nat)(bcs:Array Value)(tb:TypeId)(i:Int)(ay:Option Addr)(ny cy:Nat)(Y:Nat->Nat)(gy oy:Nat)(ycs:Array Value)(ty:TypeId)(HB:Nat->Bool)(w:World)(hn:n<4611686018427387904)(hny:ny=n)(hna:VsAt w ab n S gb ob bcs tb)(hY:NatsAt w ay ny Y gy oy ycs ty)
  (hgr: ∀w',Below w.heap.size w w'->Calls prog 58 #[.pointer v] w' (Rt (.bool true) w'))
  (hS: ∀k,k<n-> ∃ai nk ci,S k= .slice ai nk ci/\ ∀w',Below w.heap.size w w'->Calls prog 61 #[.pointer v,.slice ai nk ci,.agg (shC i (Y k))] w' (Rt (.bool (HB k)) w')):
  Calls prog 23 #[.pointer v,.slice ab n c,.agg (ptC i (.slice ay ny cy))] w fun e w'=>e= .returned (.bool (!anB (fun k=> !HB k) n))/\Below w.heap.size w w':=by
 have hg:=hgr
 have har:=fun w' g3 g4 g5 (hb:Below w.heap.size w w') (r3:Row w' g3 #[.pointer v] 25) (r4:Row w' g4 #[.slice ab n c] 31) (r5:Row w' g5 (ptC i (.slice ay ny cy)) 64)=>So ab n c 60 #[.pointer (some ⟨g3,0,none⟩),.pointer (some ⟨g4,0,none⟩),.pointer (some ⟨g5,0,none⟩)] HB w' func60 (by kernel_rfl) hn (fun k hk w2 hb2=>by
  obtain⟨ai,nk,ci,e,hm⟩:=hS k hk
  exact FQ v ab ai n c k nk ci g3 g4 g5 S gb ob bcs tb i ay ny cy Y gy oy ycs ty (HB k) w2 hk (by omega) e (r3.belowAll hb2) (r4.belowAll hb2) (r5.belowAll hb2) (hna.below (Zk hb (c_ _) hb2)) (hY.below (Zk hb (c_ _) hb2)) (fun w3 hb3=>hm w3 (Zk (Zk hb (c_ _) hb2) (c_ _) hb3)))
 clear hS hna hY
 go_enter func23,ntmps23
 have sb:=YG w;iterate 2 go_step
 refine rp ?_;refine Ye (by rfl) 25 _ rfl (.pointer v) rfl rfl ?_;intro g3 z0 n0 r3 k;simp only[pv];clear n0;replace sb:=kk sb k;clear k;refine Ye (by rfl) 31 _ rfl (.slice ab n c) rfl rfl ?_;intro g4 z1 n0 r4 k;simp only[pv];clear n0;replace r3:=k.ro r3;replace sb:=kk sb k;clear k;refine ZO (by rfl) 64 _ rfl (ptC i (.slice ay ny cy)) rfl ?_;intro g5 z2 n0 r5 k;simp only[pv];clear n0;replace r3:=k.ro r3;replace r4:=k.ro r4;replace sb:=kk sb k;clear k;refine p_v (.bool false) (fun _=>rfl) (Zb ?_);simp only[pv];iterate 4 go_step
 refine rp ?_;refine p_d 0 r3.r (.pointer v) rfl eL0 ?_;simp only[pv];refine p_c 58 func58 #[.pointer v] (hg _ sb) ?_;intro z1001 k;simp only[pv];replace r3:=k.ro r3;replace r4:=k.ro r4;replace r5:=k.ro r5;replace sb:=kk sb k;clear k;refine p_v _ (Zz _ _ rfl true rfl) ?_;refine p_m ?_;simp only[pv];refine p_v _ (Zh 64 _ 1 rfl g5 (0) rfl _ aG0 _ rfl 0 aO0) ?_;simp only[pv];refine p_d (0+1) r5.r (.slice ay ny cy) rfl aD0 ?_;simp only[pv];refine p_v _ (n_l ay ny cy Zm) ?_;simp only[pv];refine p_d 0 r4.r (.slice ab n c) rfl fH0 ?_;simp only[pv];refine p_v _ (n_l ab n c WY) ?_;simp only[pv];refine p_v _ (ZX .i64 _ _ _ _ rfl ny n rfl rfl false (by rw[d_ (by omega)];rfl)) ?_;refine p_k false (.bool false) (Zb ?_);simp only[pv];iterate 7 go_step
 refine rp ?_;refine p_d 0 r4.r (.slice ab n c) rfl fH0 ?_;simp only[pv];refine p_v (.func (.func 60) #[] #[.pointer (some ⟨g3,0,none⟩),.pointer (some ⟨g4,0,none⟩),.pointer (some ⟨g5,0,none⟩)]) (Yr _ _ rfl _ rfl) ?_;simp only[pv];refine p_c 59 func59 #[.slice ab n c,.func (.func 60) #[] #[.pointer (some ⟨g3,0,none⟩),.pointer (some ⟨g4,0,none⟩),.pointer (some ⟨g5,0,none⟩)]] (har _ g3 g4 g5 sb r3 r4 r5) ?_;intro z3002 k;simp only[pv];replace r3:=k.ro r3;replace r4:=k.ro r4;replace r5:=k.ro r5;replace sb:=kk sb k;clear k;refine p_a (Zb ?_);simp only[pv];go_wp2;go_ret;exact⟨rfl,sb⟩
theorem FR (v:Option Addr)(A g1:Nat)(B:Bool)(w:World)(r1:Row w g1 #[.pointer v] 25)
  (hin: ∀w',Below w.heap.size w w'->Calls prog 79 #[.pointer v,.agg (Zc A)] w' (Rt (.bool B) w')):
  Calls prog 78 #[.agg (Zc A),.pointer (some ⟨g1,0,none⟩)] w fun e w'=>e= .returned (.bool (!B))/\Below w.heap.size w w':=by
 go_enter func78,ntmps78
 have sb:=YG w;iterate 2 go_step
 refine rp ?_;refine ZO (by rfl) 57 _ rfl (_) rfl ?_;intro g2 z0 n0 r2 k;simp only[pv];clear n0;replace r1:=k.ro r1;replace sb:=kk sb k;clear k;refine p_v (.bool false) (fun _=>rfl) (Zb ?_);simp only[pv];iterate 3 go_step
 refine rp ?_;refine p_d 0 r1.r (.pointer v) rfl eL0 ?_;simp only[pv];refine p_l r2.r ?_;simp only[pv];refine p_c 79 func79 #[.pointer v,.agg (Zc A)] (hin _ sb) ?_;intro z1002 k;simp only[pv];replace r1:=k.ro r1;replace r2:=k.ro r2;replace sb:=kk sb k;clear k;refine p_v _ (Zz _ _ rfl B rfl) ?_;refine p_a (Zb ?_);simp only[pv];go_wp2;go_ret;exact⟨rfl,sb⟩
theorem Ir (v:Option Addr)(ab:Option Addr)(n c:Nat)(Y:Nat->Nat)(gb ob:Nat)(bcs:Array Value)(tb:TypeId)(IB:Nat->Bool)(w:World)(hn:n<4611686018427387904)(hna:NatsAt w ab n Y gb ob bcs tb)
  (hin: ∀k,k<n-> ∀w',Below w.heap.size w w'->Calls prog 79 #[.pointer v,.agg (Zc (Y k))] w' (Rt (.bool (IB k)) w')):
  Calls prog 34 #[.pointer v,.slice ab n c] w fun e w'=>e= .returned (.bool (!anB (fun k=> !IB k) n))/\Below w.heap.size w w':=by
 have hco:=fun w' g2 (hb:Below w.heap.size w w') (r2:Row w' g2 #[.pointer v] 25)=>NM ab n c Y gb ob bcs tb 78 #[.pointer (some ⟨g2,0,none⟩)] (fun k=> !IB k) w' func78 (by kernel_rfl) hn (hna.below hb) (fun k hk w2 hb2=>FR v (Y k) g2 (IB k) w2 (r2.belowAll hb2) (fun w3 hb3=>hin k hk w3 (Zk (Zk hb (c_ _) hb2) (c_ _) hb3)))
 obtain⟨B,hB⟩: ∃B,anB (fun k=> !IB k) n=B:=⟨_,rfl⟩
 rw[hB]at hco ⊢;clear hin hna hB
 go_enter func34,ntmps34
 have sb:=YG w;iterate 2 go_step
 refine rp ?_;refine Ye (by rfl) 25 _ rfl (.pointer v) rfl rfl ?_;intro g2 z0 n0 r2 k;simp only[pv];clear n0;replace sb:=kk sb k;clear k;refine p_v (.bool false) (fun _=>rfl) (Zb ?_);simp only[pv];iterate 3 go_step
 refine rp ?_;refine p_m ?_;simp only[pv];refine p_v (.func (.func 78) #[] #[.pointer (some ⟨g2,0,none⟩)]) (Yr _ _ rfl _ rfl) ?_;simp only[pv];refine p_c 77 func77 #[.slice ab n c,.func (.func 78) #[] #[.pointer (some ⟨g2,0,none⟩)]] (hco _ g2 sb r2) ?_;intro z1002 k;simp only[pv];replace r2:=k.ro r2;replace sb:=kk sb k;clear k;refine p_v _ (Zz _ _ rfl B rfl) ?_;refine p_a (Zb ?_);simp only[pv];go_wp2;go_ret;exact⟨rfl,sb⟩
theorem Is (v:Value)(i:Nat)(w:World)(hi:i<9223372036854775808):
  Calls prog 63 #[v,.int .i64 (i:Nat)] w fun e w'=>e= .returned (.agg (Zc i))/\Below w.heap.size w w':=by
 have hof:=fun w'=>Xl ((i:Nat):Int) w' (by omega)
 rw[q_]at hof
 go_enter func63,ntmps63
 have sb:=YG w;iterate 2 go_step
 refine rp ?_;refine ZT (by rfl) 57 rfl _ Zp ?_;intro g4 z0 n0 r4 k;simp only[pv];have b4:=f_ sb.size n0;clear n0;replace sb:=kk sb k;clear k;refine Zb ?_;iterate 4 go_step
 refine rp ?_;refine p_m ?_;simp only[pv];refine p_v _ (ZY _ _ _ _ rfl ((i:Nat)) (0) rfl rfl true (d_ (by omega))) (Zb ?_);simp only[pv];iterate 4 go_step
 refine rp ?_;refine p_m ?_;simp only[pv];refine p_c 57 gZ0 #[.int .i64 (i:Nat)] (hof _) ?_;intro z2001 k;simp only[pv];replace r4:=k.ro r4;replace sb:=kk sb k;clear k;refine p_p r4 i ?_;clear r4;intro z2002 r4 k;simp only[Act.put];replace sb:=kk sb k;clear k;refine Zb ?_;go_wp2;exact ZM rfl _ rfl r4 4 _ b_ (by exact Zd) rfl ⟨rfl,sb⟩
theorem FS (v:Option Addr)(ab:Option Addr)(n c k x E g1 g2 g3:Nat)(S:Nat->Value)(gb ob:Nat)(bcs:Array Value)(tb:TypeId)(w:World)(hk:k<n)(r1:Row w g1 #[.pointer v] 25)(r2:Row w g2 #[.slice ab n c] 30)(r3:Row w g3 (Zc x) 57)(hna:VsAt w ab n S gb ob bcs tb)
  (hev: ∀w',Below w.heap.size w w'->Calls prog 65 #[.pointer v,S k,.agg (Zc x)] w' (Rt (.agg (Zc E)) w')):
  Calls prog 64 #[.int .i64 k,.pointer (some ⟨g1,0,none⟩),.pointer (some ⟨g2,0,none⟩),.pointer (some ⟨g3,0,none⟩)] w fun e w'=>e= .returned (.agg (Zc E))/\Below w.heap.size w w':=by
 obtain h0|⟨rfl,rB,hbt⟩:=hna.at'
 ·exact absurd h0 (by omega)
 have hbk:=hbt k hk;have HR:Hid (WV w gb bcs tb):=rB;have hbl:=rB.lt;clear hbt hna rB
 go_enter func64,ntmps64
 have sb:=YG w;iterate 2 go_step
 refine rp ?_;refine ZT (by rfl) 57 rfl _ Zp ?_;intro g5 z0 n0 r5 k;simp only[pv];have d1x5:=l_l r1.lt n0;have d2x5:=l_l r2.lt n0;have d3x5:=l_l r3.lt n0;have b5:=f_ sb.size n0;clear n0;replace r1:=k.ro r1;replace r2:=k.ro r2;replace r3:=k.ro r3;replace sb:=kk sb k;clear k;refine Zb ?_;have rB:=HR.out.belowAll sb;iterate 3 go_step
 apply Zi (by kernel_rfl) [(g5,57,Zc 0)] [_,_,_,_,_,_,_,_] ⟨r5,trivial⟩ (by simp<;>omega)
 ·intro p;refine Zs 25 _ rfl _ (0) rfl r1 (by simp<;>omega) (.pointer v) rfl eL0 ?_;simp only[pv];refine Zs 30 _ rfl _ (0) rfl r2 (by simp<;>omega) (.slice (some ⟨gb,ob,none⟩) n c) rfl isAgg30 ?_;refine m_m ?_;simp only[pv];refine m_x k hk cR0 aO0 ?_;simp only[pv];refine JH 22 _ rfl gb (ob+k*1) rfl rB (by simp<;>omega) (S k) hbk aD0 ?_;simp only[pv];refine m_l r3 ?_;simp only[pv];refine m_k 65 func65 #[.pointer v,S k,.agg (Zc x)] (fun w' hk=>hev w' (sb.trans (hk.below w.heap.size sb.size (by simp<;>omega)))) ?_;simp only[pv];refine m_p 0 E ?_;simp only[Act.put];refine Zf ?_;intro w5 hkw hrw hnew hdis;have zr5:Row w5 (g5) (Zc E) 57:=hrw 0 (57,Zc E) rfl;replace sb:=kk sb hkw;clear hkw hrw hnew hdis r5;have r5:=zr5;clear zr5;go_wp2;exact ZM rfl _ rfl r5 4 _ b_ (by exact Zd) rfl ⟨rfl,sb⟩
 ·kernel_rfl
theorem B0 (v:Option Addr)(ab:Option Addr)(n c i:Nat)(S:Nat->Value)(gb ob:Nat)(bcs:Array Value)(tb:TypeId)(E:Nat->Nat)(w:World)(hi:i<9223372036854775808)(hn:n<=4000)(hna:VsAt w ab n S gb ob bcs tb)
  (hgr: ∀w',Below w.heap.size w w'->Calls prog 58 #[.pointer v] w' (Rt (.bool true) w'))
  (hev: ∀k,k<n-> ∀w',Below w.heap.size w w'->Calls prog 65 #[.pointer v,S k,.agg (Zc i)] w' (Rt (.agg (Zc (E k))) w')):
  Calls prog 24 #[.pointer v,.slice ab n c,.int .i64 (i:Nat)] w fun e w'=> ∃gY,e= .returned (.agg (ptC (i:Nat) (.slice (some ⟨gY,0,none⟩) n n)))/\w.heap.size<=gY/\Row w' gY (nsC n E) 57/\Below w.heap.size w w':=by
 have hto:=fun w' g3 g4 g7 (hb:Below w.heap.size w w') (r3:Row w' g3 #[.pointer v] 25) (r4:Row w' g4 #[.slice ab n c] 30) (r7:Row w' g7 (Zc i) 57)=>Sq n 64 #[.pointer (some ⟨g3,0,none⟩),.pointer (some ⟨g4,0,none⟩),.pointer (some ⟨g7,0,none⟩)] E w' func64 (by kernel_rfl) hn (fun k hk w2 hb2=>FS v ab n c k i (E k) g3 g4 g7 S gb ob bcs tb w2 hk (r3.belowAll hb2) (r4.belowAll hb2) (r7.belowAll hb2) (hna.below (Zk hb (c_ _) hb2)) (fun w3 hb3=>hev k hk w3 (Zk (Zk hb (c_ _) hb2) (c_ _) hb3)))
 have hpl:=fun w'=>Is (.pointer v) i w' hi
 clear hev hna
 go_enter func24,ntmps24
 have sb:=YG w;iterate 2 go_step
 refine rp ?_;refine Ye (by rfl) 25 _ rfl (.pointer v) rfl rfl ?_;intro g3 z0 n0 r3 k;simp only[pv];clear n0;replace sb:=kk sb k;clear k;refine Ye (by rfl) 30 _ rfl (.slice ab n c) rfl rfl ?_;intro g4 z1 n0 r4 k;simp only[pv];clear n0;replace r3:=k.ro r3;replace sb:=kk sb k;clear k;refine ZT (by rfl) 64 rfl _ Ip ?_;intro g6 z2 n0 r6 k;simp only[pv];have d3x6:=l_l r3.lt n0;have d4x6:=l_l r4.lt n0;have b6:=f_ sb.size n0;clear n0;replace r3:=k.ro r3;replace r4:=k.ro r4;replace sb:=kk sb k;clear k;refine Zb ?_;iterate 4 go_step
 refine rp ?_;refine p_d 0 r3.r (.pointer v) rfl eL0 ?_;simp only[pv];refine p_c 58 func58 #[.pointer v] (hgr _ sb) ?_;intro z1001 k;simp only[pv];replace r3:=k.ro r3;replace r4:=k.ro r4;replace r6:=k.ro r6;replace sb:=kk sb k;clear k;refine p_v _ (Zz _ _ rfl true rfl) (Zb ?_);simp only[pv];iterate 7 go_step
 refine rp ?_;refine p_d 0 r3.r (.pointer v) rfl eL0 ?_;refine p_m ?_;simp only[pv];refine p_c 63 func63 #[.pointer v,.int .i64 (i:Nat)] (hpl _) ?_;intro z3002 k;simp only[pv];replace r3:=k.ro r3;replace r4:=k.ro r4;replace r6:=k.ro r6;replace sb:=kk sb k;clear k;refine ZT (by rfl) 57 rfl _ Zp ?_;intro g7 z3003 n0 r7 k;simp only[pv];have d3x7:=l_l r3.lt n0;have d4x7:=l_l r4.lt n0;have d6x7:=l_l r6.lt n0;have b7:=f_ sb.size n0;clear n0;replace r3:=k.ro r3;replace r4:=k.ro r4;replace r6:=k.ro r6;replace sb:=kk sb k;clear k;refine p_p r7 i ?_;clear r7;intro z3004 r7 k;simp only[Act.put];replace r3:=k.ro r3;replace r4:=k.ro r4;replace r6:=k.ro r6;replace sb:=kk sb k;clear k;refine Zb ?_;iterate 3 go_step
 refine rp ?_;refine p_m ?_;simp only[pv];refine p_d 0 r4.r (.slice ab n c) rfl isAgg30 ?_;simp only[pv];refine p_v _ (n_l ab n c Fz) ?_;simp only[pv];refine p_v (.func (.func 64) #[] #[.pointer (some ⟨g3,0,none⟩),.pointer (some ⟨g4,0,none⟩),.pointer (some ⟨g7,0,none⟩)]) (Yr _ _ rfl _ rfl) ?_;simp only[pv];refine p_f 44 func44 #[.int .i64 n,.func (.func 64) #[] #[.pointer (some ⟨g3,0,none⟩),.pointer (some ⟨g4,0,none⟩),.pointer (some ⟨g7,0,none⟩)]] (hto _ g3 g4 g7 sb r3 r4 r7) ?_;rintro _ z4004 ⟨gY,rfl,nY,rY,hb⟩;refine⟨_,rfl,?_⟩;simp only[pv];have d6xY:=l_l r6.lt nY;have bY:=f_ sb.size nY;clear nY;have k:=Kept.ofBelow hb;clear hb;replace r3:=k.ro r3;replace r4:=k.ro r4;replace r6:=k.ro r6;replace r7:=k.ro r7;replace sb:=kk sb k;clear k;refine p_v _ (Z3 _ [(0,.tmp 15),(1,.tmp 19)] rfl [(0,.int .i64 (i:Nat)),(1,.slice (some ⟨gY,0,none⟩) n n)] rfl (ptC (i:Nat) (.slice (some ⟨gY,0,none⟩) n n)) (NW _ _ _ _)) ?_;simp only[pv];refine Xg (by rfl) 64 _ _ rfl _ rfl r6 (ptC (i:Nat) (.slice (some ⟨gY,0,none⟩) n n)) rfl (by exact XB) (by rfl) (NV _ _ _ _) ?_;clear r6;intro z4006 r6 k;simp only[Act.put];replace r3:=k.ro r3;replace r4:=k.ro r4;replace r7:=k.ro r7;replace rY:=k.ro rY;replace sb:=kk sb k;clear k;refine Zb ?_;go_wp2;exact XL rfl _ rfl r6 _ aG0 XB rfl ⟨gY,rfl,bY,rY,sb⟩
theorem yh {P:Program}{o:Oper}{ρ:Operand->Value}(t:TypeId)(x:Operand)(ho:o.op= .call {callee:=.builtin .cap,args:=#[x],argTypes:=#[t]})(ab:Option Addr)(n c:Nat)(hx:ρ x= .slice ab n c)(hu:P.underlying t=some (.slice (P.elem t)))(w:World):
  (execOp ρ o).run P w= .ok (.value (.int .i64 c)) w:=by
 unfold execOp;simp only[ho];simp[resolve,invoke,builtin,hx,Builtin.cap_,V_ hu,goInt]
section
variable {ops:Array Oper}{Q:Exit->Act->World->Prop}{rest:List Oper}{o:Oper}{a:Act}{w:World}
theorem FT (hw:Region.wanted o (yielded ops a.tmps)=true)(s x:Operand)(ho:o.op= .call {callee:=.builtin .append,args:=#[s,x],argTypes:=#[22,3]})
  (base m:Nat)(hs:a.eval s= .slice none 0 0)(hx:a.eval x= .int .i64 m)(h0:0<m)(hn:m<=1000)(hbase:base<=w.heap.size)
  (h: ∀g c w',(∀f,Wt w' base (.slice (some ⟨g,0,none⟩) 0 c) 0 f)->m<=c->Kept [] w w'->PW prog ops Q rest (a.put o.dst (.slice (some ⟨g,0,none⟩) m c)) w'):PW prog ops Q (o::rest) a w:=by
 obtain⟨i,hi,hz,hsz,hby⟩:=Yn;have hm: ¬m=0:=by omega
 have hns: ¬(m*i.size=0):=by rw[hsz];omega
 have hw':IntKind.i64.wrap (m:Int)=m:=by rw[J_];omega
 have hneg: ¬((m:Int)<0):=by omega
 have h48i: ¬(281474976710656<(m:Int)*(i.bytes:Int)):=by rw[hby];omega
 have h63': ¬(9223372036854775807<(m:Int)):=by omega
 have h48': ¬(281474976710656<Builtin.nextslicecap m 0*i.bytes):=by
  have:=growslice_fits (need:=m) (old:=0) (bytes:=i.bytes) (by omega) (by rw[hby];omega);omega
 have hge:=grownCap_ge w m 0 57;have hcm:=grownCap_le_maxLen w m 0 57 (by unfold maxLen;omega);have hfo:=run_firstCells_none (P:=prog) w.drew i.size 0 0 0
 have hr:(Builtin.append_ #[22,3] o.type #[.slice none 0 0,.int .i64 m]).run prog w= .ok (.slice (some ⟨w.heap.size,0,none⟩) m (grownCap w m 0 57))
   (w.drew.alloc (.cells (Builtin.zeroCells (Value.agg #[.int .u64 0,.int .u64 0,.int .u64 0,.int .u64 0]).cells m++Builtin.zeroCells (Value.agg #[.int .u64 0,.int .u64 0,.int .u64 0,.int .u64 0]).cells (grownCap w m 0 57-m)) 57)):=by
  simp[Builtin.append_,V_ r_,V_ bS0,sizeOf,typeInfo,zeroValue,hi,hz,asInt,asIntOf,hw',hm,hneg,hns,h48i,h63',h48',Question.forced,hfo,newRow,grownCap]
 obtain⟨cc,hcc⟩: ∃cc:Array Value,cc=Builtin.zeroCells (Value.agg #[.int .u64 0,.int .u64 0,.int .u64 0,.int .u64 0]).cells m++Builtin.zeroCells (Value.agg #[.int .u64 0,.int .u64 0,.int .u64 0,.int .u64 0]).cells (grownCap w m 0 57-m):=⟨_,rfl⟩
 rw[<-hcc]at hr;refine W8 hw (.slice (some ⟨w.heap.size,0,none⟩) m (grownCap w m 0 57)) (w.drew.alloc (.cells cc 57)) ?_ (h w.heap.size (grownCap w m 0 57) (w.drew.alloc (.cells cc 57)) (fun f=>⟨?_,.inr ⟨w.heap.size,grownCap w m 0 57,cc,rfl,hbase,gO0 w.drew _,eU0 _,hcm,?_,?_⟩⟩) hge ⟨rfl,rfl,rfl,by simp,fun k hk _=>_root_.Go.heap_alloc_old w.drew _ hk⟩)
 ·unfold execOp;simp only[ho,resolve,invoke,builtin,p_,Y_,k_,cF0,dC0,eP0,hs,hx,hr]
 ·rw[A_,ZZ]
 ·have hz4:(Value.agg #[.int .u64 0,.int .u64 0,.int .u64 0,.int .u64 0]).cells.size=4:=rfl;rw[hcc,Array.size_append,iB0,iB0,hz4];omega
 ·have e:(nsC 0 f).toList=[]:=by
   apply bK0;rw[A_,ZZ]
  rw[e,cD0];rfl
theorem S8 {ab:Option Addr}{m gx ox:Nat}{F:Nat->Nat}{bcs:Array Value}{tb:TypeId}(hna:NatsAt w ab m F gx ox bcs tb)(h0:0<m): ∀j u,(nsC m F).toList[j]?=some u->w.cell? ((⟨gx,ox,none⟩:Addr).add j)=some u:=by
 intro j u hu;obtain h|⟨_,rB,hb⟩:=hna.at'
 ·omega
 rw[o_]at hu
 have hj:j<4*m:=by
  have:=(O_.1 hu).1;rw[ZZ]at this;omega
 rw[Xo m F j hj]at hu;have h4:j%4<4:=m_ _ (by decide);have:=hb (j/4) (by omega) (j%4) _ (by rw[o_];exact Yh (F (j/4)) (j%4) h4);rw[Addr.add_mid,rB.cell,show ox+j=ox+j/4*4+j%4 by omega,this];exact hu
theorem FU (hw:Region.wanted o (yielded ops a.tmps)=true)(s x:Operand)(ho:o.op= .call {callee:=.builtin .append,args:=#[s,x],argTypes:=#[22,22]})
  (base:Nat)(v:Value)(n:Nat)(f:Nat->Nat)(hs:a.eval s=v)(hown:Wt w base v n f)(gx ox m c:Nat)(hx:a.eval x= .slice (some ⟨gx,ox,none⟩) m c){ab:Option Addr}{bcs:Array Value}{tb:TypeId}(hna:NatsAt w ab m (fun i=>f (n+i)) gx ox bcs tb)(h0:0<m)(hn:n+m<=1000)(hbase:base<=w.heap.size)
  (h: ∀v' w',Wt w' base v' (n+m) f->Kept v.ownBlock.toList w w'->PW prog ops Q rest (a.put o.dst v') w'):PW prog ops Q (o::rest) a w:=by
 obtain⟨i,hi,hz,hsz,hby⟩:=Yn;obtain⟨v',w',hr,h2,h3,_⟩:=iA0 (P:=prog) w base 22 o.type 57 i _ 4 32 r_ hi hz hsz hby rfl (by decide) v n _ hown ⟨gx,ox,none⟩ m c (nsC m (fun i=>f (n+i))).toList (by rw[A_,ZZ,t_]) (S8 hna h0) (Wf (OC _ _)) (by unfold maxLen;omega) (by omega) hbase;rw[Sf]at h2;refine W8 hw v' w' ?_ (h v' w' h2 ⟨h3.os,h3.tape,h3.output,h3.size,fun k hk hn=>h3.block k hk fun e=>?_⟩)
 ·unfold execOp;simp only[ho,resolve,invoke,builtin,p_,Y_,k_,cF0,dC0,eP0,hs,hx,hr]
 ·rw[<-e]at hn;simp at hn
end
theorem FV (n:Nat)(w:World)(h0:0<n)(hn:n<=1000):
  Calls prog 80 #[.slice none 0 0,.int .i64 n] w fun e w'=> ∃g c,e= .returned (.slice (some ⟨g,0,none⟩) 0 c)/\(∀f,Wt w' w.heap.size (.slice (some ⟨g,0,none⟩) 0 c) 0 f)/\Below w.heap.size w w':=by
 go_enter func80,ntmps80
 have sb:=YG w;iterate 2 go_step
 refine rp ?_;refine YP (by rfl) (.inr rfl) rfl ?_;simp only[pv];refine Zb ?_;iterate 4 go_step
 refine rp ?_;refine p_m ?_;refine p_v _ (Xe n 0) (Zb ?_);simp only[pv];iterate 8 go_step
 refine rp ?_;refine p_m ?_;refine p_m ?_;simp only[pv];refine p_v _ (yh _ _ rfl none 0 0 rfl Zm) ?_;refine p_m ?_;simp only[pv];refine p_v _ (n_l none ((0:Nat)) 0 Zm) ?_;simp only[pv];refine p_v _ (Z2 _ _ _ _ rfl 0 0 rfl rfl (by omega) (by omega)) ?_;simp only[pv];refine p_v _ (Z2 _ _ _ _ rfl n 0 rfl rfl (by omega) (by omega)) ?_;refine p_a (Zb ?_);simp only[pv];iterate 3 go_step
 refine rp ?_;refine p_m ?_;simp only[pv];refine p_v _ (Gh (n-0:Nat) 0) (Zb ?_);simp only[pv];iterate 3 go_step
 refine rp ?_;refine p_m ?_;refine p_m ?_;simp only[pv];refine p_v _ (yh _ _ rfl none 0 0 rfl Zm) ?_;simp only[pv];refine p_v _ (Ow _ _ _ rfl Zm 4 Vy none 0 0 0 rfl rfl (by omega)) ?_;refine p_m ?_;simp only[pv];refine FT (by rfl) _ _ rfl w.heap.size (n-0) rfl rfl (by omega) (by omega) sb.size ?_;intro g1 c1 z5005 hO hc1 k;simp only[pv];replace sb:=kk sb k;clear k;refine p_m ?_;simp only[pv];refine p_v _ (n_l none ((0:Nat)) 0 Zm) ?_;simp only[pv];refine p_v _ (Ow _ _ _ rfl Zm 4 Vy (some ⟨g1,0,none⟩) (n-0) c1 0 rfl rfl (by omega)) ?_;simp only[pv];refine p_a ?_;simp only[Act.put,aA0,bT0];refine Zb ?_;iterate 3 go_step
 refine rp ?_;refine p_m ?_;refine p_a (Zb ?_);simp only[pv];go_wp2;go_ret;exact⟨g1,c1,rfl,hO,sb⟩
def ctS (N:Nat->Nat):Nat->Nat
 |0=>0
 |k+1=>ctS N k+N k
theorem yi (N:Nat->Nat){k q:Nat}(h:k<=q):ctS N k<=ctS N q:=by
 induction q with
 |zero=>rw[iN0.1 h];exact c_ _
 |succ q ih=>
  by_cases e:k=q+1
  ·rw[e];exact c_ _
  ·exact f_ (ih (by omega)) (Nat.le_add_right _ _)
theorem Lh (q gA oA cA:Nat)(A O N C:Nat->Nat)(F:Nat->Nat)(acs:Array Value)(tA:TypeId)(w:World)(hq:q<=1000)(h0:0<ctS N q)(hL:ctS N q<=1000)(hN: ∀k,k<q->0<N k)(hna:VsAt w (some ⟨gA,oA,none⟩) q (fun k=>.slice (some ⟨A k,O k,none⟩) (N k) (C k)) gA oA acs tA)(hF: ∀k,k<q-> ∃ab bcs tb,NatsAt w ab (N k) (fun i=>F (ctS N k+i)) (A k) (O k) bcs tb):
  Calls prog 35 #[.slice (some ⟨gA,oA,none⟩) q cA] w fun e w'=> ∃v,e= .returned v/\Wt w' w.heap.size v (ctS N q) F/\Below w.heap.size w w':=by
 have hgr:=fun w'=>FV (ctS N q) w' h0 hL
 have HC:Hid (∀k,k<q->ctS N (k+1)<=ctS N q):=fun k hk=>yi N hk
 have HB:Hid (VsAt w (some ⟨gA,oA,none⟩) q (fun k=>.slice (some ⟨A k,O k,none⟩) (N k) (C k)) gA oA acs tA):=hna;clear hna
 go_enter func35,ntmps35
 have sb:=YG w;iterate 2 go_step
 refine rp ?_;refine YP (by rfl) (.inr rfl) rfl ?_;simp only[pv];refine Zb ?_;iterate 3 go_step
 refine rp ?_;refine p_v (.int .i64 0) (fun _=>rfl) (Zb ?_);simp only[pv];iterate 4 go_step
 refine rp ?_;refine p_m ?_;simp only[pv];refine p_v _ (n_l (some ⟨gA,oA,none⟩) q cA Fz) ?_;refine p_v (.int .i64 0) (fun _=>rfl) (Zb ?_);simp only[pv]
 go_wp2_with fail
 go_loopg [3,5,11] q (fun x s3 s5 s11 wr=> ∃k:Nat,k+x=q/\s11= .int .i64 k/\s3= .int .i64 (ctS N k:Nat)/\Below w.heap.size w wr)
 case atStart=>exact⟨0,by omega,rfl,rfl,sb⟩
 case round=>
  clear sb;obtain⟨k,hk,rfl,rfl,sb⟩:=hrel
  cases gk with
  |succ x=>
   have hlt:k<q:=by omega
   have hc1:=HC.out k hlt;have hc2:ctS N (k+1)=ctS N k+N k:=rfl;obtain hx|⟨_,rB,hbt⟩:=(HB.out.below sb).at'
   ·exact absurd hx (by omega)
   have hbk:=hbt k hlt;clear hbt hgr
   go_step
   refine rp ?_;refine p_v _ (X4 k q) (Zb ?_);simp only[pv];iterate 10 go_step
   refine rp ?_;refine p_x k hlt cR0 aO0 ?_;simp only[pv];refine p_d (oA+k*1) rB (.slice (some ⟨A k,O k,none⟩) (N k) (C k)) hbk aD0 ?_;refine p_a (Zb ?_);simp only[pv];clear rB hbk;iterate 3 go_step
   refine rp ?_;refine p_m ?_;refine p_m ?_;simp only[pv];refine p_v _ (n_l (some ⟨A k,O k,none⟩) (N k) (C k) Zm) ?_;simp only[pv];refine p_v _ (x_a (ctS N k) (N k)) ?_;refine p_a (Zb ?_);simp only[pv];iterate 3 go_step
   refine rp ?_;refine p_m ?_;simp only[pv];refine p_v _ (Xe (ctS N k+N k:Nat) 0) (Zb ?_);simp only[pv];iterate 6 go_step
   refine rp ?_;refine p_v _ (x_a k 1) ?_;refine p_m (Zb ?_);simp only[pv];go_wp2
   go_roundg x
   case measure=>omega
   case rel=>exact⟨k+1,by omega,rfl,rfl,sb⟩
  |zero=>
   obtain rfl:k=q:=by omega
   clear hk
   go_step
   refine rp ?_;refine p_v _ (Xe k k) (Zb ?_);simp only[pv];have hs1:=sb.size;iterate 8 go_step
   refine rp ?_;refine p_m ?_;simp only[pv];refine p_f 80 func80 #[.slice none 0 0,.int .i64 (ctS N k:Nat)] (hgr _) ?_;rintro _ z9001 ⟨g1,c1,rfl,hO1,hb⟩;refine⟨_,rfl,?_⟩;simp only[pv];have k:=Kept.ofBelow hb;clear hb;replace sb:=kk sb k;clear k;refine p_a (Zb ?_);simp only[pv];have hO:=Wt.from (hO1 F) hs1
   clear hO1 hgr hs1;iterate 4 go_step
   refine rp ?_;refine p_m ?_;simp only[pv];refine p_v _ (n_l (some ⟨gA,oA,none⟩) k cA Fz) ?_;refine p_v (.int .i64 0) (fun _=>rfl) (Zb ?_);simp only[pv]
   go_wp2_with fail
   go_loopg [6,8,27] k (fun x s6 s8 s27 wr=> ∃j:Nat,j+x=k/\s27= .int .i64 j/\Wt wr w.heap.size s6 (ctS N j) F/\Below w.heap.size w wr)
   case atStart=>exact⟨0,by omega,rfl,hO,sb⟩
   case round=>
    clear hO sb;obtain⟨j,hj,rfl,hO,sb⟩:=hrel
    cases gk with
    |succ x=>
     have hlt:j<k:=by omega
     have hc1:=HC.out j hlt;have hc2:ctS N (j+1)=ctS N j+N j:=rfl;have hnj:=hN j hlt;obtain hx|⟨_,rB,hbt⟩:=(HB.out.below sb).at'
     ·exact absurd hx (by omega)
     have hbk:=hbt j hlt;obtain⟨ab,bcs,tb,hJ⟩:=hF j hlt;have hJs:=hJ.below sb;clear hbt hJ
     go_step
     refine rp ?_;refine p_v _ (X4 j k) (Zb ?_);simp only[pv];iterate 10 go_step
     refine rp ?_;refine p_x j hlt cR0 aO0 ?_;simp only[pv];refine p_d (oA+j*1) rB (.slice (some ⟨A j,O j,none⟩) (N j) (C j)) hbk aD0 ?_;refine p_a (Zb ?_);simp only[pv];clear rB hbk;iterate 2 go_step
     refine rp ?_;refine p_m ?_;refine p_m ?_;simp only[pv];have h0:=hO;refine FU (by rfl) _ _ rfl w.heap.size _ (ctS N j) F rfl hO (A j) (O j) (N j) (C j) rfl hJs hnj (by omega) sb.size ?_;clear hO;intro v1 z13002 hO k;simp only[pv];replace sb:=sb.trans (k.below w.heap.size sb.size h0.base);clear k h0;refine p_a (Zb ?_);simp only[pv];clear hJs;iterate 2 go_step
     refine rp ?_;refine p_v _ (x_a j 1) ?_;refine p_m (Zb ?_);simp only[pv];go_wp2
     go_roundg x
     case measure=>omega
     case rel=>exact⟨j+1,by omega,rfl,hO,sb⟩
    |zero=>
     obtain rfl:j=k:=by omega
     clear hj
     go_step
     refine rp ?_;refine p_v _ (Xe j j) (Zb ?_);simp only[pv];iterate 8 go_step
     refine rp ?_;refine p_m ?_;refine p_a (Zb ?_);simp only[pv];go_wp2;go_ret;exact⟨_,rfl,hO,sb⟩
open Go.ChangeShapes Go.WideShapes Go.ChangeAt Go.RowKit
end Go.Proofs.YtnagnkhbamhfmaaGreatDoor
