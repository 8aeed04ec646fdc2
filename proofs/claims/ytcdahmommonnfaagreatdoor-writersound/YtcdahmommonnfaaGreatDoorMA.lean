import Derived.Shelf.Strings.Builder1
import Derived.Shelf.Strings.Builder2
import Derived.Test.YtcdahmommonnfaaGreatDoorCO
import Derived.Test.YtcdahmommonnfaaGreatDoorJ9
set_option maxRecDepth 100000
set_option maxHeartbeats 8000000
namespace Go.Proofs.YtcdahmommonnfaaGreatDoor
set_option linter.all false
open Go.Shelf Go.RowKit Go.Proofs.Tryz
def PJ:Go.Shelf.Ren:=⟨fun|166=>188|167=>220|169=>190|240=>214|276=>242|n=>n,fun|0=>0|70=>244|3=>3|4=>4|5=>5|9=>9|20=>20|72=>246|37=>122|75=>249|76=>250|127=>206|164=>291|80=>252|n=>n,fun|n=>n⟩
theorem BH:Go.Proofs.Lays.n166 prog PJ:={
 mixed:=by kernel_rfl
 f166:=func188.trans (congrArg some (by kernel_rfl))
 f240:=func214.trans (congrArg some (by kernel_rfl))
 f276:=func242.trans (congrArg some (by kernel_rfl))
 t0:=underlying0
 a0:=isAgg0
 z0:=sizeOf0
 v0:=zeroValue0
 t3:=underlying3
 a3:=isAgg3
 z3:=sizeOf3
 v3:=zeroValue3
 t4:=underlying4
 a4:=isAgg4
 z4:=sizeOf4
 v4:=zeroValue4
 t9:=underlying9
 a9:=isAgg9
 z9:=sizeOf9
 v9:=zeroValue9
 t20:=underlying20
 a20:=isAgg20
 z20:=sizeOf20
 v20:=zeroValue20
 t37:=underlying122
 a37:=isAgg122
 z37:=sizeOf122
 v37:=zeroValue122
 t70:=underlying244
 a70:=isAgg244
 z70:=sizeOf244
 v70:=zeroValue244
 t72:=underlying246
 a72:=isAgg246
 z72:=sizeOf246
 v72:=zeroValue246
 t75:=underlying249
 a75:=isAgg249
 z75:=sizeOf249
 v75:=zeroValue249
 t164:=underlying291
 a164:=isAgg291
 z164:=sizeOf291
 v164:=zeroValue291}
theorem BI:Go.Proofs.Lays.n167 prog PJ:={
 mixed:=by kernel_rfl
 f167:=func220.trans (congrArg some (by kernel_rfl))
 f240:=func214.trans (congrArg some (by kernel_rfl))
 f276:=func242.trans (congrArg some (by kernel_rfl))
 t0:=underlying0
 a0:=isAgg0
 z0:=sizeOf0
 v0:=zeroValue0
 t4:=underlying4
 a4:=isAgg4
 z4:=sizeOf4
 v4:=zeroValue4
 t5:=underlying5
 a5:=isAgg5
 z5:=sizeOf5
 v5:=zeroValue5
 t9:=underlying9
 a9:=isAgg9
 z9:=sizeOf9
 v9:=zeroValue9
 t20:=underlying20
 a20:=isAgg20
 z20:=sizeOf20
 v20:=zeroValue20
 t37:=underlying122
 a37:=isAgg122
 z37:=sizeOf122
 v37:=zeroValue122
 t70:=underlying244
 a70:=isAgg244
 z70:=sizeOf244
 v70:=zeroValue244
 t72:=underlying246
 a72:=isAgg246
 z72:=sizeOf246
 v72:=zeroValue246
 t75:=underlying249
 a75:=isAgg249
 z75:=sizeOf249
 v75:=zeroValue249
 t164:=underlying291
 a164:=isAgg291
 z164:=sizeOf291
 v164:=zeroValue291}
theorem BJ:Go.Proofs.Lays.n169 prog PJ:={
 mixed:=by kernel_rfl
 f169:=func190.trans (congrArg some (by kernel_rfl))
 t0:=underlying0
 a0:=isAgg0
 z0:=sizeOf0
 v0:=zeroValue0
 t3:=underlying3
 a3:=isAgg3
 z3:=sizeOf3
 v3:=zeroValue3
 t9:=underlying9
 a9:=isAgg9
 z9:=sizeOf9
 v9:=zeroValue9
 t37:=underlying122
 a37:=isAgg122
 z37:=sizeOf122
 v37:=zeroValue122
 t70:=underlying244
 a70:=isAgg244
 z70:=sizeOf244
 v70:=zeroValue244
 t72:=underlying246
 a72:=isAgg246
 z72:=sizeOf246
 v72:=zeroValue246
 t127:=underlying206
 a127:=isAgg206
 z127:=sizeOf206
 v127:=zeroValue206}
theorem BK:Builder.Extra prog PJ:={
 sizeBuilder:=by kernel_rfl
 liesBuilder:=by kernel_rfl
 t5:=underlying5
 a5:=isAgg5
 z5:=sizeOf5
 v5:=zeroValue5
 infoByte:=by kernel_rfl
 cellsByte:=by kernel_rfl
 sizeByte:=by kernel_rfl
 neB5:=by decide}
def OZ (w:World)(B b:Nat)(l:List UInt8):Prop:=Lib.IsBuilder 246 5 B b (Lib.byteCells l) w
theorem PK {B g0:Nat}{p:Value}{bs:List Value}{w w':World}(h:Lib.BuilderAt 246 5 B g0 p bs w)(hb:Below w.heap.size w w'):Lib.BuilderAt 246 5 B g0 p bs w':=by
 obtain⟨hB,v,hbk,hown,hne⟩:=h;refine⟨hB,v,(hb.block g0 (Array.getElem?_eq_some_iff.1 hbk).1).trans hbk,?_,hne⟩;exact hown.kept (row:=none) ⟨hb.os,hb.tape,hb.output,hb.size,fun k hk _=>hb.block k hk⟩ (by cases v.ownBlock<;>simp)
theorem OZ.below {B b:Nat}{l:List UInt8}{w w':World}(h:OZ w B b l)(hb:Below w.heap.size w w'):OZ w' B b l:=h.imp (fun h=>PK h hb) (fun h=>PK h hb)
theorem OZ.fresh {B b:Nat}{w:World}(hB:B<=b)(h:Row w b #[.pointer none,.slice none 0 0] 246):OZ w B b []:=
 Or.inl ⟨hB,.slice none 0 0,h,World.ownsRow_nil _ _ _ _,by simp[Value.ownBlock]⟩
theorem Ie (B b:Nat)(l s:List UInt8)(w:World)(h:OZ w B b l)(hlen:l.length+s.length<=100000)(hBw:B<=w.heap.size):
  Calls prog 188 #[.pointer (some ⟨b,0,none⟩),.string ⟨s.toArray⟩] w fun e w'=>e= .returned (.tuple #[.int .i64 s.length,.nilIface])/\OZ w' B b (l++s)/\Below B w w':=by
 have hs:(⟨s.toArray⟩:ByteArray).size=s.length:=by simp[ByteArray.size]
 have h1:=Any.Builder_WriteString BH BK B b (Lib.byteCells l) ⟨s.toArray⟩ w h (by rw[Lib.byteCells_length,hs];omega) hBw;rw[hs]at h1;refine h1.mono fun e w' ⟨he,hb,hl⟩=>⟨he,.inr ?_,hl⟩
 have e2:Lib.byteCells l++Lib.strCells ⟨s.toArray⟩=Lib.byteCells (l++s):=by simp[Lib.byteCells,Lib.strCells]
 rw[<-e2];exact hb
theorem If (B b:Nat)(l:List UInt8)(w:World)(h:OZ w B b l)(hBw:B<=w.heap.size):
  Calls prog 190 #[.pointer (some ⟨b,0,none⟩)] w fun e w'=>e= .returned (.string ⟨l.toArray⟩)/\Below B w w':=Any.Builder_String_any BJ BK B b l w h hBw
theorem T9 (B b c:Nat)(l:List UInt8)(w:World)(h:OZ w B b l)(hc:c<256)(hlen:l.length+1<=100000)(hBw:B<=w.heap.size):
  Calls prog 220 #[.pointer (some ⟨b,0,none⟩),.int .u8 c] w fun e w'=>e= .returned .nilIface/\OZ w' B b (l++[UInt8.ofNat c])/\Below B w w':=by
 have h1:=Any.Builder_WriteByte BI BK B b (Lib.byteCells l) c w h (by rw[Lib.byteCells_length];omega) hBw;refine h1.mono fun e w' ⟨he,hb,hl⟩=>⟨he,.inr ?_,hl⟩
 have e2:Lib.byteCells l++[Value.int .u8 c]=Lib.byteCells (l++[UInt8.ofNat c]):=by
  simp[Lib.byteCells,Nat.mod_eq_of_lt hc]
 rw[<-e2];exact hb
open Go.RowKit
theorem Ru:prog.underlying 53=some (.slice (prog.elem 53)):=by kernel_rfl
theorem Ig (w:World):(zeroValue 246).run prog w= .ok (.agg #[.pointer none,.slice none 0 0]) w:=by kernel_rfl
def lrB (t:Int):Bool:=decide (1<=t)&&decide (t<=2)
def ccB (r c:Int):Bool:=decide (1<=r)&&decide (r<=25)&&decide (1<=c)&&decide (c<=7)
def tbB (n:Nat)(N:Nat->Nat):Bool:=ccB n (N 0)&& !anB (fun k=> !decide ((N k:Int)=N 0)) n
theorem O0 (t:Int)(b1 b2:Bool)(w:World)(h1:decide (1<=t)=b1)(h2:decide (t<=2)=b2):
  Calls prog 198 #[.int .i64 t] w fun e w'=>e= .returned (.bool (b1&&b2))/\Below w.heap.size w w':=by
 cases b1
 ·show Calls _ _ _ _ fun e w'=>e= .returned (.bool false)/\_
  go_enter func198,ntmps198
  have sb:=Z9 w;iterate 2 go_step
  refine rp ?_;refine p_v (.bool false) (fun _=>rfl) (Za ?_);simp only[pv];iterate 3 go_step
  refine rp ?_;refine p_m ?_;simp only[pv];refine p_v _ (ZG _ _ _ _ rfl (t) (1) rfl rfl false h1) ?_;refine p_m ?_;refine p_s ?_;refine p_s ?_;refine p_k false (.bool false) ?_;simp only[pv];refine p_a (Za ?_);simp only[pv];go_wp2;go_ret;exact⟨rfl,sb⟩
 ·show Calls _ _ _ _ fun e w'=>e= .returned (.bool b2)/\_
  go_enter func198,ntmps198
  have sb:=Z9 w;iterate 2 go_step
  refine rp ?_;refine p_v (.bool false) (fun _=>rfl) (Za ?_);simp only[pv];iterate 3 go_step
  refine rp ?_;refine p_m ?_;simp only[pv];refine p_v _ (ZG _ _ _ _ rfl (t) (1) rfl rfl true h1) ?_;refine p_m ?_;refine p_m ?_;simp only[pv];refine p_v _ (Yb _ _ _ _ rfl (t) (2) rfl rfl b2 h2) ?_;refine p_k true (.bool b2) ?_;refine p_a (Za ?_);simp only[pv];go_wp2;go_ret;exact⟨rfl,sb⟩
theorem Lh (t:Int)(w:World):Calls prog 198 #[.int .i64 t] w (Rt (.bool (lrB t)) w):=O0 t _ _ w rfl rfl
theorem Qw (r c:Int)(b1 b2 b3 b4:Bool)(w:World)(h1:decide (1<=r)=b1)(h2:decide (r<=25)=b2)(h3:decide (1<=c)=b3)(h4:decide (c<=7)=b4):
  Calls prog 199 #[.int .i64 r,.int .i64 c] w fun e w'=>e= .returned (.bool (b1&&b2&&b3&&b4))/\Below w.heap.size w w':=by
 cases b1
 ·show Calls _ _ _ _ fun e w'=>e= .returned (.bool false)/\_
  go_enter func199,ntmps199
  have sb:=Z9 w;iterate 2 go_step
  refine rp ?_;refine p_v (.bool false) (fun _=>rfl) (Za ?_);simp only[pv];iterate 3 go_step
  refine rp ?_;refine p_m ?_;simp only[pv];refine p_v _ (ZG _ _ _ _ rfl (r) (1) rfl rfl false h1) ?_;refine p_m ?_;refine p_s ?_;refine p_s ?_;refine p_k false (.bool false) ?_;simp only[pv];refine p_m ?_;refine p_s ?_;refine p_s ?_;refine p_k false (.bool false) ?_;refine p_m ?_;simp only[pv];refine p_s ?_;refine p_s ?_;refine p_k false (.bool false) ?_;refine p_a (Za ?_);simp only[pv];go_wp2;go_ret;exact⟨rfl,sb⟩
 ·cases b2
  ·show Calls _ _ _ _ fun e w'=>e= .returned (.bool false)/\_
   go_enter func199,ntmps199
   have sb:=Z9 w;iterate 2 go_step
   refine rp ?_;refine p_v (.bool false) (fun _=>rfl) (Za ?_);simp only[pv];iterate 3 go_step
   refine rp ?_;refine p_m ?_;simp only[pv];refine p_v _ (ZG _ _ _ _ rfl (r) (1) rfl rfl true h1) ?_;refine p_m ?_;refine p_m ?_;simp only[pv];refine p_v _ (Yb _ _ _ _ rfl (r) (25) rfl rfl false h2) ?_;refine p_k true (.bool false) ?_;refine p_m ?_;refine p_s ?_;refine p_s ?_;simp only[pv];refine p_k false (.bool false) ?_;refine p_m ?_;refine p_s ?_;refine p_s ?_;refine p_k false (.bool false) ?_;simp only[pv];refine p_a (Za ?_);simp only[pv];go_wp2;go_ret;exact⟨rfl,sb⟩
  ·cases b3
   ·show Calls _ _ _ _ fun e w'=>e= .returned (.bool false)/\_
    go_enter func199,ntmps199
    have sb:=Z9 w;iterate 2 go_step
    refine rp ?_;refine p_v (.bool false) (fun _=>rfl) (Za ?_);simp only[pv];iterate 3 go_step
    refine rp ?_;refine p_m ?_;simp only[pv];refine p_v _ (ZG _ _ _ _ rfl (r) (1) rfl rfl true h1) ?_;refine p_m ?_;refine p_m ?_;simp only[pv];refine p_v _ (Yb _ _ _ _ rfl (r) (25) rfl rfl true h2) ?_;refine p_k true (.bool true) ?_;refine p_m ?_;refine p_m ?_;simp only[pv];refine p_v _ (ZG _ _ _ _ rfl (c) (1) rfl rfl false h3) ?_;refine p_k true (.bool false) ?_;refine p_m ?_;refine p_s ?_;refine p_s ?_;simp only[pv];refine p_k false (.bool false) ?_;refine p_a (Za ?_);simp only[pv];go_wp2;go_ret;exact⟨rfl,sb⟩
   ·show Calls _ _ _ _ fun e w'=>e= .returned (.bool b4)/\_
    go_enter func199,ntmps199
    have sb:=Z9 w;iterate 2 go_step
    refine rp ?_;refine p_v (.bool false) (fun _=>rfl) (Za ?_);simp only[pv];iterate 3 go_step
    refine rp ?_;refine p_m ?_;simp only[pv];refine p_v _ (ZG _ _ _ _ rfl (r) (1) rfl rfl true h1) ?_;refine p_m ?_;refine p_m ?_;simp only[pv];refine p_v _ (Yb _ _ _ _ rfl (r) (25) rfl rfl true h2) ?_;refine p_k true (.bool true) ?_;refine p_m ?_;refine p_m ?_;simp only[pv];refine p_v _ (ZG _ _ _ _ rfl (c) (1) rfl rfl true h3) ?_;refine p_k true (.bool true) ?_;refine p_m ?_;refine p_m ?_;simp only[pv];refine p_v _ (Yb _ _ _ _ rfl (c) (7) rfl rfl b4 h4) ?_;refine p_k true (.bool b4) ?_;refine p_a (Za ?_);simp only[pv];go_wp2;go_ret;exact⟨rfl,sb⟩
theorem Tj (r c:Int)(w:World):Calls prog 199 #[.int .i64 r,.int .i64 c] w (Rt (.bool (ccB r c)) w):=Qw r c _ _ _ _ w rfl rfl rfl rfl
theorem Li {fn:Func}(ab:Option Addr)(n c:Nat)(f:FuncId)(caps:Array Value)(B:Nat->Bool)(w:World)(hf:prog.funcs[f]?=some fn)(hb0:(fn.name== "runtime.NumGoroutine" ||fn.body.isNone)=false)(hn:n<4611686018427387904)
  (hc: ∀k:Nat,k<n-> ∀w',Below w.heap.size w w'->Calls prog f (#[.int .i64 k]++caps) w' (Rt (.bool (B k)) w')):
  Calls prog 246 #[.slice ab n c,.func (.func f) #[] caps] w fun e w'=>e= .returned (.bool (!anB (fun k=> !B k) n))/\Below w.heap.size w w':=by
 go_enter func246,ntmps246
 have sb:=Z9 w;iterate 2 go_step
 refine rp ?_;refine p_v (.bool false) (fun _=>rfl) (Za ?_);simp only[pv];iterate 4 go_step
 refine rp ?_;refine p_m ?_;simp only[pv];refine p_v _ (n_l ab n c Ru) ?_;refine p_v (.int .i64 0) (fun _=>rfl) (Za ?_);simp only[pv]
 go_wp2_with fail
 go_loopg [5,8] n (fun x s5 s8 wr=> ∃k:Nat,k+x=n/\s8= .int .i64 k/\anB (fun k=> !B k) k=false/\Below w.heap.size w wr)
 case atStart=>exact⟨0,by omega,rfl,rfl,sb⟩
 case round=>
  clear sb;obtain⟨k,hk,rfl,han,sb⟩:=hrel
  cases gk with
  |zero=>
   obtain rfl:k=n:=by omega
   have HF:Hid (anB (fun k=> !B k) k=false):=han;clear hk hc han
   go_step
   refine rp ?_;refine p_v _ (Xy k k) (Za ?_);simp only[pv];iterate 8 go_step
   refine rp ?_;refine p_v (.bool true) (fun _=>rfl) (Za ?_);simp only[pv];go_wp2;go_ret;exact⟨by rw[HF.out];rfl,sb⟩
  |succ x=>
   have hlt:k<n:=by omega
   have hck:=hc k hlt;clear hc
   cases hBk:B k with
   |true=>
    have hnx:anB (fun k=> !B k) (k+1)=false:=by
     show(anB (fun k=> !B k) k|| !B k)=false
     rw[han,hBk];rfl
    rw[hBk]at hck
    go_step
    refine rp ?_;refine p_v _ (XK k n) (Za ?_);simp only[pv];iterate 10 go_step
    refine rp ?_;refine p_m ?_;refine p_a (Za ?_);simp only[pv];iterate 3 go_step
    refine rp ?_;refine p_m ?_;refine p_m ?_;simp only[pv];refine Yd (by rfl) (f) _ _ _ rfl (caps) rfl (hf) (hb0) #[.int .i64 (k:Nat)] rfl _ (hck _ sb) ?_;intro z4002 k;simp only[pv];replace sb:=kk sb k;clear k;refine p_v _ (Zp _ _ rfl true rfl) (Za ?_);simp only[pv];iterate 6 go_step
    refine rp ?_;refine p_v _ (x_a k 1) ?_;refine p_m (Za ?_);simp only[pv];go_wp2
    go_roundg x
    case measure=>omega
    case rel=>exact⟨k+1,by omega,rfl,hnx,sb⟩
   |false=>
    have HF:Hid (anB (fun k=> !B k) n=true):=(UF (fun k=> !B k) n).2 ⟨k,hlt,by show(!B k)=true;rw[hBk];rfl⟩;rw[hBk]at hck
    go_step
    refine rp ?_;refine p_v _ (XK k n) (Za ?_);simp only[pv];iterate 10 go_step
    refine rp ?_;refine p_m ?_;refine p_a (Za ?_);simp only[pv];iterate 3 go_step
    refine rp ?_;refine p_m ?_;refine p_m ?_;simp only[pv];refine Yd (by rfl) (f) _ _ _ rfl (caps) rfl (hf) (hb0) #[.int .i64 (k:Nat)] rfl _ (hck _ sb) ?_;intro z4002 k;simp only[pv];replace sb:=kk sb k;clear k;refine p_v _ (Zp _ _ rfl false rfl) (Za ?_);simp only[pv];iterate 4 go_step
    refine rp ?_;refine p_v (.bool false) (fun _=>rfl) (Za ?_);simp only[pv];go_wp2;go_ret;exact⟨by rw[HF.out];rfl,sb⟩
theorem Ll {fn:Func}(n:Nat)(f:FuncId)(caps:Array Value)(F:Nat->Nat)(w:World)(hf:prog.funcs[f]?=some fn)(hb0:(fn.name== "runtime.NumGoroutine" ||fn.body.isNone)=false)(hn:n<=4000)
  (hc: ∀k:Nat,k<n-> ∀w',Below w.heap.size w w'->Calls prog f (#[.int .i64 k]++caps) w' (Rt (.agg (Zc (F k))) w')):
  Calls prog 235 #[.int .i64 n,.func (.func f) #[] caps] w fun e w'=> ∃g,e= .returned (.slice (some ⟨g,0,none⟩) n n)/\w.heap.size<=g/\Row w' g (nsC n F) 39/\Below w.heap.size w w':=by
 obtain⟨ie,hie,hze,hsz,hby⟩:=YL
 go_enter func235,ntmps235
 have sb:=Z9 w;iterate 2 go_step
 refine rp ?_;refine p_v (.slice none 0 0) ((fun _=>rfl)) (Za ?_);simp only[pv];iterate 3 go_step
 refine rp ?_;refine p_m ?_;simp only[pv];refine Wn (by rfl) 54 39 _ _ rfl ie _ underlying54 hie hze n rfl rfl (by rw[hsz];omega) (by rw[hby];omega) (by omega) ?_;intro gM z1001 n0 rM k;simp only[pv];have bM:=Nat.le_trans sb.size n0;clear n0;replace sb:=kk sb k;clear k;refine p_a (Za ?_);simp only[pv];rw[hsz,WI]at rM;iterate 4 go_step
 refine rp ?_;refine p_m ?_;refine p_v (.int .i64 0) (fun _=>rfl) (Za ?_);simp only[pv]
 go_wp2_with fail
 go_loopg [6,10] n (fun g s6 s10 wr=> ∃k:Nat,k+g=n/\s10= .int .i64 k/\Row wr gM (nsC n (fun j=>if j<k then F j else 0)) 39/\Below w.heap.size w wr)
 case atStart=>exact⟨0,by omega,rfl,by rw[show(fun j=>if j<0 then F j else 0)=fun _=>0 from funext fun j=>if_neg (by omega)];exact rM,sb⟩
 case round=>
  clear rM sb;obtain⟨k,hk,rfl,rM,sb⟩:=hrel
  cases gk with
  |zero=>
   obtain rfl:k=n:=by omega
   clear hk hc;rw[XP k _ F (fun j hj=>if_pos hj)]at rM
   go_step
   refine rp ?_;refine p_v _ (Xy k k) (Za ?_);simp only[pv];iterate 8 go_step
   refine rp ?_;refine p_m ?_;refine p_a (Za ?_);simp only[pv];go_wp2;go_ret;exact⟨gM,rfl,bM,rM,sb⟩
  |succ g=>
   have hlt:k<n:=by omega
   have hput:=W8 n (fun j=>if j<k then F j else 0) (fun j=>if j<k+1 then F j else 0) k hlt (0+k*4) (by omega) (F k) (fun j hj=>by
    by_cases hjk:j=k
    ·subst hjk;rw[if_pos (by omega),if_pos rfl]
    ·rw[if_neg hjk];by_cases h2:j<k
     ·rw[if_pos h2,if_pos (by omega)]
     ·rw[if_neg h2,if_neg (by omega)])
   go_step
   refine rp ?_;refine p_v _ (XK k n) (Za ?_);simp only[pv];iterate 10 go_step
   refine rp ?_;refine p_m ?_;refine p_a (Za ?_);simp only[pv];iterate 2 go_step
   refine rp ?_;refine p_m ?_;refine p_m ?_;refine p_m ?_;refine p_m ?_;simp only[pv];refine Yd (by rfl) (f) _ _ _ rfl (caps) rfl (hf) (hb0) #[.int .i64 (k:Nat)] rfl _ (hc k hlt _ sb) ?_;intro z5004 k;simp only[pv];replace rM:=k.ro rM;replace sb:=kk sb k;clear k;refine p_x k hlt underlying54 ZU ?_;simp only[pv];refine X2 (by rfl) 39 _ _ rfl _ (0+k*4) rfl rM (Zc (F k)) rfl (by exact Ze) (by rw[Z7,Zt];omega) (ZA _) (nsC n (fun j=>if j<k+1 then F j else 0)) hput ?_;clear rM;intro z5006 rM k;simp only[Act.put];replace sb:=kk sb k;clear k;refine Za ?_;clear hput;iterate 2 go_step
   refine rp ?_;refine p_v _ (x_a k 1) ?_;refine p_m (Za ?_);simp only[pv];go_wp2
   go_roundg g
   case measure=>omega
   case rel=>exact⟨k+1,by omega,rfl,rM,sb⟩
theorem Ih (v f:Option Addr)(P Q G:Nat)(r:Option Addr)(w:World)(h:UT w v P Q G r f):
  Calls prog 233 #[.pointer v] w fun e w'=>e= .returned (.bool (!f.isNone))/\Below w.heap.size w w':=by
 have hf:=fun w' (hb:Below w.heap.size w w')=>Xu v P Q G r f w' (h.below hb)
 go_enter func233,ntmps233
 have sb:=Z9 w;iterate 2 go_step
 refine rp ?_;refine p_v (.bool false) (fun _=>rfl) (Za ?_);simp only[pv];iterate 3 go_step
 refine rp ?_;refine p_m ?_;simp only[pv];refine p_c 250 func250 #[.pointer v] (hf _ sb) ?_;intro z1001 k;simp only[pv];replace sb:=kk sb k;clear k;refine p_v _ (YE _ _ _ _ rfl f rfl rfl S6) ?_;refine p_a (Za ?_);simp only[pv];go_wp2;go_ret;exact⟨rfl,sb⟩
theorem Ii (ab:Option Addr)(n c:Nat)(S:Nat->Value)(gb ob:Nat)(bcs:Array Value)(tb:TypeId)(a0 ai:Option Addr)(k nk ck n0 c0 g1:Nat)(w:World)(hk:k<n)(hS0:S 0= .slice a0 n0 c0)(hSk:S k= .slice ai nk ck)(r1:Row w g1 #[.slice ab n c] 53)(hna:VsAt w ab n S gb ob bcs tb):
  Calls prog 247 #[.int .i64 k,.pointer (some ⟨g1,0,none⟩)] w fun e w'=>e= .returned (.bool (decide ((nk:Int)=n0)))/\Below w.heap.size w w':=by
 obtain⟨B,hB⟩: ∃B,decide ((nk:Int)=n0)=B:=⟨_,rfl⟩
 rw[hB];obtain h0|⟨rfl,rB,hbt⟩:=hna.at'
 ·exact absurd h0 (by omega)
 have hbk:=hbt k hk;have hb0:=hbt 0 (by omega);rw[hSk]at hbk;rw[hS0]at hb0;clear hbt hna
 go_enter func247,ntmps247
 have sb:=Z9 w;iterate 2 go_step
 refine rp ?_;refine p_v (.bool false) (fun _=>rfl) (Za ?_);simp only[pv];iterate 3 go_step
 refine ZF (by kernel_rfl) (by kernel_rfl) ?_;refine ZH (by rfl) 53 _ rfl _ (0) rfl r1 (.slice (some ⟨gb,ob,none⟩) n c) rfl isAgg53 ?_;refine q_m ?_;simp only[pv];refine q_x k hk underlying53 sizeOf54 ?_;simp only[pv];refine XN (by rfl) 54 _ rfl _ (ob+k*1) rfl rB (.slice ai nk ck) hbk isAgg54 ?_;simp only[pv];refine q_v _ (n_l ai nk ck ZN) ?_;simp only[pv];refine ZH (by rfl) 53 _ rfl _ (0) rfl r1 (.slice (some ⟨gb,ob,none⟩) n c) rfl isAgg53 ?_;simp only[pv];refine q_v _ ((Zs 53 _ _ rfl (gb) (ob) (n) (c) rfl (0) rfl (by omega) _ underlying53 1 sizeOf54)) ?_;simp only[pv];refine XN (by rfl) 54 _ rfl _ (ob+0*1) rfl rB (.slice a0 n0 c0) hb0 isAgg54 ?_;simp only[pv];refine q_v _ (n_l a0 n0 c0 ZN) ?_;simp only[pv];refine q_v _ (Zq .i64 _ _ _ _ rfl nk n0 rfl rfl B hB) ?_;refine q_a ?_;simp only[pv];refine Z2 ?_;intro w3 hqb;replace sb:=b_o sb hqb;clear hqb;go_wp2;go_ret;exact⟨rfl,sb⟩
theorem FQ (ab:Option Addr)(n c:Nat)(S:Nat->Value)(gb ob:Nat)(bcs:Array Value)(tb:TypeId)(w:World)(hn:n<4611686018427387904)(hna:VsAt w ab n S gb ob bcs tb)(N:Nat->Nat)(hN: ∀i,i<n-> ∃ai ci,S i= .slice ai (N i) ci):
  Calls prog 219 #[.slice ab n c] w fun e w'=>e= .returned (.bool (tbB n N))/\Below w.heap.size w w':=by
 by_cases h0:n=0
 ·subst h0;show Calls _ _ _ _ fun e w'=>e= .returned (.bool false)/\_
  go_enter func219,ntmps219
  have sb:=Z9 w;iterate 2 go_step
  refine rp ?_;refine Y4 (by rfl) 53 _ rfl (.slice ab 0 c) rfl rfl ?_;intro g1 z0 n0 r1 k;simp only[pv];clear n0;replace sb:=kk sb k;clear k;refine p_v (.bool false) (fun _=>rfl) (Za ?_);simp only[pv];iterate 4 go_step
  refine ZF (by kernel_rfl) (by kernel_rfl) ?_;refine ZH (by rfl) 53 _ rfl _ (0) rfl r1 (.slice ab 0 c) rfl isAgg53 ?_;simp only[pv];refine q_v _ (n_l ab 0 c Ru) ?_;simp only[pv];refine q_v _ (Zq .i64 _ _ _ _ rfl 0 0 rfl rfl true rfl) ?_;refine q_m ?_;simp only[pv];refine ZI (by rfl) ?_;simp only[pv];refine ZI (by rfl) ?_;simp only[pv];refine ZI (by rfl) ?_;simp only[pv];refine ZI (by rfl) ?_;simp only[pv];refine ZI (by rfl) ?_;simp only[pv];refine ZI (by rfl) ?_;simp only[pv];refine ZI (by rfl) ?_;simp only[pv];refine ZI (by rfl) ?_;refine q_p true (.bool true) ?_;simp only[pv];refine Z2 ?_;intro w3 hqb;replace sb:=b_o sb hqb;clear hqb;iterate 4 go_step
  refine rp ?_;refine p_v (.bool false) (fun _=>rfl) (Za ?_);simp only[pv];go_wp2;go_ret;exact⟨rfl,sb⟩
 obtain⟨a0,c0,hS0⟩:=hN 0 (by omega);obtain h0'|⟨rfl,rB,hbt⟩:=hna.at'
 ·exact absurd h0' h0
 have hb0:=hbt 0 (by omega);rw[hS0]at hb0;have HB:Hid (VsAt w (some ⟨gb,ob,none⟩) n S gb ob bcs tb):=hna;have HR:Hid (WD w gb bcs tb):=rB;clear hbt hna rB;have hcc:=fun w'=>Tj n (N 0:Nat) w'
 unfold tbB;cases hB:ccB n (N 0)
 ·show Calls _ _ _ _ fun e w'=>e= .returned (.bool false)/\_
  rw[hB]at hcc;clear hN
  go_enter func219,ntmps219
  have sb:=Z9 w;iterate 2 go_step
  refine rp ?_;refine Y4 (by rfl) 53 _ rfl (.slice (some ⟨gb,ob,none⟩) n c) rfl rfl ?_;intro g1 z0 n0 r1 k;simp only[pv];clear n0;replace sb:=kk sb k;clear k;refine p_v (.bool false) (fun _=>rfl) (Za ?_);simp only[pv];have rB:=HR.out.belowAll sb;iterate 4 go_step
  refine ZF (by kernel_rfl) (by kernel_rfl) ?_;refine ZH (by rfl) 53 _ rfl _ (0) rfl r1 (.slice (some ⟨gb,ob,none⟩) n c) rfl isAgg53 ?_;simp only[pv];refine q_v _ (n_l (some ⟨gb,ob,none⟩) n c Ru) ?_;simp only[pv];refine q_v _ (Zq .i64 _ _ _ _ rfl n 0 rfl rfl false (decide_eq_false (by omega))) ?_;refine q_m ?_;simp only[pv];refine ZH (by rfl) 53 _ rfl _ (0) rfl r1 (.slice (some ⟨gb,ob,none⟩) n c) rfl isAgg53 ?_;simp only[pv];refine q_v _ (n_l (some ⟨gb,ob,none⟩) n c Ru) ?_;simp only[pv];refine ZH (by rfl) 53 _ rfl _ (0) rfl r1 (.slice (some ⟨gb,ob,none⟩) n c) rfl isAgg53 ?_;simp only[pv];refine q_v _ ((Zs 53 _ _ rfl (gb) (ob) (n) (c) rfl (0) rfl (by omega) _ underlying53 1 sizeOf54)) ?_;simp only[pv];refine XN (by rfl) 54 _ rfl _ (ob+0*1) rfl rB (.slice a0 (N 0) c0) hb0 isAgg54 ?_;simp only[pv];refine q_v _ (n_l a0 (N 0) c0 ZN) ?_;simp only[pv];refine q_c 199 func199 #[.int .i64 n,.int .i64 (N 0:Nat)] hcc ?_;simp only[pv];refine q_v _ (Zp _ _ rfl false rfl) ?_;refine q_p false (.bool true) ?_;simp only[pv];refine Z2 ?_;intro w3 hqb;replace sb:=b_o sb hqb;clear hqb;iterate 4 go_step
  refine rp ?_;refine p_v (.bool false) (fun _=>rfl) (Za ?_);simp only[pv];go_wp2;go_ret;exact⟨rfl,sb⟩
 ·show Calls _ _ _ _ fun e w'=>e= .returned (.bool (!anB _ n))/\_
  rw[hB]at hcc
  have har:=fun w' g1 (hb:Below w.heap.size w w') (r1:Row w' g1 #[.slice (some ⟨gb,ob,none⟩) n c] 53)=>Li (some ⟨gb,ob,none⟩) n c 247 #[.pointer (some ⟨g1,0,none⟩)] (fun k=>decide ((N k:Int)=N 0)) w' func247 (by kernel_rfl) hn (fun k hk w2 h2=>by
   obtain⟨ai,ci,e⟩:=hN k hk
   exact Ii _ n c S gb ob bcs tb a0 ai k (N k) ci (N 0) c0 g1 w2 hk hS0 e (r1.belowAll h2) (HB.out.below (Zk hb (Nat.le_refl _) h2)))
  clear hN
  go_enter func219,ntmps219
  have sb:=Z9 w;iterate 2 go_step
  refine rp ?_;refine Y4 (by rfl) 53 _ rfl (.slice (some ⟨gb,ob,none⟩) n c) rfl rfl ?_;intro g1 z0 n0 r1 k;simp only[pv];clear n0;replace sb:=kk sb k;clear k;refine p_v (.bool false) (fun _=>rfl) (Za ?_);simp only[pv];have rB:=HR.out.belowAll sb;iterate 4 go_step
  refine ZF (by kernel_rfl) (by kernel_rfl) ?_;refine ZH (by rfl) 53 _ rfl _ (0) rfl r1 (.slice (some ⟨gb,ob,none⟩) n c) rfl isAgg53 ?_;simp only[pv];refine q_v _ (n_l (some ⟨gb,ob,none⟩) n c Ru) ?_;simp only[pv];refine q_v _ (Zq .i64 _ _ _ _ rfl n 0 rfl rfl false (decide_eq_false (by omega))) ?_;refine q_m ?_;simp only[pv];refine ZH (by rfl) 53 _ rfl _ (0) rfl r1 (.slice (some ⟨gb,ob,none⟩) n c) rfl isAgg53 ?_;simp only[pv];refine q_v _ (n_l (some ⟨gb,ob,none⟩) n c Ru) ?_;simp only[pv];refine ZH (by rfl) 53 _ rfl _ (0) rfl r1 (.slice (some ⟨gb,ob,none⟩) n c) rfl isAgg53 ?_;simp only[pv];refine q_v _ ((Zs 53 _ _ rfl (gb) (ob) (n) (c) rfl (0) rfl (by omega) _ underlying53 1 sizeOf54)) ?_;simp only[pv];refine XN (by rfl) 54 _ rfl _ (ob+0*1) rfl rB (.slice a0 (N 0) c0) hb0 isAgg54 ?_;simp only[pv];refine q_v _ (n_l a0 (N 0) c0 ZN) ?_;simp only[pv];refine q_c 199 func199 #[.int .i64 n,.int .i64 (N 0:Nat)] hcc ?_;simp only[pv];refine q_v _ (Zp _ _ rfl true rfl) ?_;refine q_p false (.bool false) ?_;simp only[pv];refine Z2 ?_;intro w3 hqb;replace r1:=r1.belowAll hqb;replace sb:=b_o sb hqb;clear hqb;iterate 7 go_step
  refine rp ?_;refine p_d 0 r1.r (.slice (some ⟨gb,ob,none⟩) n c) rfl isAgg53 ?_;simp only[pv];refine p_v (.func (.func 247) #[] #[.pointer (some ⟨g1,0,none⟩)]) (YG _ _ rfl _ rfl) ?_;simp only[pv];refine p_c 246 func246 #[.slice (some ⟨gb,ob,none⟩) n c,.func (.func 247) #[] #[.pointer (some ⟨g1,0,none⟩)]] (har _ g1 sb r1) ?_;intro z3002 k;simp only[pv];replace r1:=k.ro r1;replace sb:=kk sb k;clear k;refine p_a (Za ?_);simp only[pv];go_wp2;go_ret;exact⟨rfl,sb⟩
theorem wr8 (x:Nat)(h:x<256):IntKind.u8.wrap (x:Int)=(x:Int):=by rw[IntKind.wrap_u8'];omega
def xmB (n:Nat)(N:Nat->Nat)(M:Nat->Nat->Nat):List UInt8:=if tbB n N=true then xmL n (N 0) (fun t=>M (t/N 0) (t%N 0))else[]
theorem DU {n:Nat}{N:Nat->Nat}(h:tbB n N=true):1<=n/\n<=25/\1<=N 0/\N 0<=7/\ ∀i,i<n->N i=N 0:=by
 simp only[tbB,ccB,Bool.and_eq_true,decide_eq_true_eq,Bool.not_eq_true']at h;obtain⟨⟨⟨⟨h1,h2⟩,h3⟩,h4⟩,h5⟩:=h;refine⟨by omega,by omega,by omega,by omega,fun i hi=>?_⟩;by_cases e:N i=N 0
 ·exact e
 ·exact Bool.noConfusion (h5.symm.trans ((UF _ n).2 ⟨i,hi,by show(!decide _)=true;rw[decide_eq_false (by omega)];rfl⟩))
theorem O1 (ab:Option Addr)(n c:Nat)(S:Nat->Value)(gb ob:Nat)(bcs:Array Value)(tb:TypeId)(N:Nat->Nat)(M:Nat->Nat->Nat)(w:World)(hn:n<4611686018427387904)(hna:VsAt w ab n S gb ob bcs tb)(hS: ∀i,i<n->DF w (S i) (N i) (M i)):
  Calls prog 195 #[.slice ab n c] w fun e w'=>e= .returned (.string ⟨(xmB n N M).toArray⟩)/\Below w.heap.size w w':=by
 have htb:=fun w' (hb:Below w.heap.size w w')=>FQ ab n c S gb ob bcs tb w' hn (hna.below hb) N (fun i hi=>by
  obtain⟨ai,ci,_,_,_,_,e,_⟩:=hS i hi
  exact⟨ai,ci,e⟩)
 cases hT:tbB n N
 ·rw[hT]at htb;rw[show xmB n N M=[] by unfold xmB;rw[if_neg (by rw[hT];decide)]];clear hS hna
  go_enter func195,ntmps195
  have sb:=Z9 w;iterate 2 go_step
  refine rp ?_;refine YI (by rfl) (.inr rfl) rfl ?_;simp only[pv];refine Za ?_;iterate 4 go_step
  refine rp ?_;refine p_m ?_;simp only[pv];refine p_c 219 func219 #[.slice ab n c] (htb _ sb) ?_;intro z1001 k;simp only[pv];replace sb:=kk sb k;clear k;refine p_v _ (Zp _ _ rfl false rfl) (Za ?_);simp only[pv];iterate 4 go_step
  refine rp ?_;refine YI (by rfl) (.inr rfl) rfl ?_;simp only[pv];refine Za ?_;go_wp2;go_ret;exact⟨rfl,sb⟩
 rw[hT]at htb;obtain⟨n1,n2,k1,k2,hNk⟩:=DU hT
 have HE:Hid (xmB n N M=xmL n (N 0) (fun t=>M (t/N 0) (t%N 0))):=by
  show _=_
  unfold xmB;rw[if_pos hT]
 have HS:Hid (∀i,i<n-> ∃ai ci gi oi ics ti,S i= .slice ai (N 0) ci/\NatsAt w ai (N 0) (M i) gi oi ics ti):=fun i hi=>by
  obtain⟨ai,ci,gi,oi,ics,ti,e,h⟩:=hS i hi;rw[hNk i hi]at e h;exact⟨ai,ci,gi,oi,ics,ti,e,h⟩
 obtain⟨k,hk⟩: ∃k,N 0=k:=⟨_,rfl⟩
 rw[hk]at HE HS k1 k2;obtain⟨G,hG⟩: ∃G:Nat->Nat,G=fun t=>M (t/k) (t%k):=⟨_,rfl⟩
 have HG:Hid (∀i j,j<k->M i j=G (i*k+j)):=fun i j hj=>by
  rw[hG];show _=M _ _
  rw[DS i hj,DT i hj]
 have HGl:Hid (∀t,t<n*k->G t<2^256):=fun t ht=>by
  rw[hG];have h1:t/k<n:=Nat.div_lt_of_lt_mul (by rw[Nat.mul_comm];exact ht);obtain⟨ai,ci,gi,oi,ics,ti,e,h⟩:=HS.out _ h1;exact h.lt _ (Nat.mod_lt _ (by omega))
 rw[<-hG]at HE;have HB:Hid (VsAt w ab n S gb ob bcs tb):=hna;clear hS hna hG hNk hk hT;have hnk:n*k<=25*7:=Nat.mul_le_mul n2 k2
 have HL:Hid (∀t,t<=n*k->(UInt8.ofNat n::UInt8.ofNat k::xmT G (t)).length+64<=100000):=fun t ht=>by
  show(xmT G t).length+1+1+64<=100000
  have:=Ti (G:=G) (t:=t) (fun i hi=>HGl.out i (by omega));omega
 go_enter func195,ntmps195
 have sb:=Z9 w;iterate 2 go_step
 refine rp ?_;refine YI (by rfl) (.inr rfl) rfl ?_;simp only[pv];refine Za ?_;iterate 4 go_step
 refine rp ?_;refine p_m ?_;simp only[pv];refine p_c 219 func219 #[.slice ab n c] (htb _ sb) ?_;intro z1001 k;simp only[pv];replace sb:=kk sb k;clear k;refine p_v _ (Zp _ _ rfl true rfl) (Za ?_);simp only[pv];clear htb;iterate 7 go_step
 refine rp ?_;refine ZJ (by rfl) 246 rfl _ Ig ?_;intro g3 z3000 n0 r3 k;simp only[pv];have b3:=Nat.le_trans sb.size n0;clear n0;replace sb:=kk sb k;clear k;refine Za ?_;have hB:=OZ.fresh b3 r3;clear r3;iterate 3 go_step
 refine rp ?_;refine p_m ?_;simp only[pv];refine p_v _ (n_l ab n c Ru) ?_;simp only[pv];refine p_v (.int .u8 (n:Nat)) (Q6 _ _ _ rfl .i64 .u8 underlying3 underlying5 (n:Nat) _ rfl (wr8 _ (by omega))) ?_;simp only[pv];refine p_f 220 func220 #[.pointer (some ⟨g3,0,none⟩),.int .u8 (n:Nat)] (T9 w.heap.size g3 n _ _ hB (by omega) (by simp) sb.size) ?_;clear hB;rintro _ z4003 ⟨rfl,hB,hb⟩;refine⟨_,rfl,?_⟩;simp only[pv];replace sb:=sb.trans hb;clear hb;refine Za ?_;obtain⟨a0,c0,g0,o0,ics0,t0,e0,h0⟩:=HS.out 0 (by omega);obtain hx|⟨rfl,rB,hbt⟩:=(HB.out.below sb).at'
 ·exact absurd hx (by omega)
 have hb0:=hbt 0 (by omega);rw[e0]at hb0;clear hbt e0 h0;iterate 3 go_step
 refine rp ?_;refine p_m ?_;simp only[pv];refine p_v _ ((Zs 53 _ _ rfl (gb) (ob) (n) (c) rfl (0) rfl (by omega) _ underlying53 1 sizeOf54)) ?_;simp only[pv];refine p_d (ob+0*1) rB (.slice a0 k c0) hb0 isAgg54 ?_;simp only[pv];refine p_v _ (n_l a0 k c0 ZN) ?_;simp only[pv];refine p_v (.int .u8 (k:Nat)) (Q6 _ _ _ rfl .i64 .u8 underlying3 underlying5 (k:Nat) _ rfl (wr8 _ (by omega))) ?_;simp only[pv];refine p_f 220 func220 #[.pointer (some ⟨g3,0,none⟩),.int .u8 (k:Nat)] (T9 w.heap.size g3 k _ _ hB (by omega) (by simp) sb.size) ?_;clear hB;rintro _ z5005 ⟨rfl,hB,hb⟩;refine⟨_,rfl,?_⟩;simp only[pv];replace sb:=sb.trans hb;clear hb;refine Za ?_;clear rB hb0;rw[show[]++[UInt8.ofNat n]++[UInt8.ofNat k]=(UInt8.ofNat n::UInt8.ofNat k::xmT G (0*k)) by rw[Nat.zero_mul];rfl]at hB;iterate 4 go_step
 refine rp ?_;refine p_m ?_;simp only[pv];refine p_v _ (n_l (some ⟨gb,ob,none⟩) n c Ru) ?_;refine p_v (.int .i64 0) (fun _=>rfl) (Za ?_);simp only[pv]
 go_wp2_with fail
 go_loopg [5,24] n (fun x s5 s24 wr=> ∃i:Nat,i+x=n/\s24= .int .i64 i/\OZ wr w.heap.size g3 (UInt8.ofNat n::UInt8.ofNat k::xmT G (i*k))/\Below w.heap.size w wr)
 case atStart=>exact⟨0,by omega,rfl,hB,sb⟩
 case round=>
  clear hB sb;obtain⟨i,hi,rfl,hB,sb⟩:=hrel
  cases gk with
  |zero=>
   obtain rfl:i=n:=by omega
   clear hi HG HGl HL HS HB
   go_step
   refine rp ?_;refine p_v _ (Xy i i) (Za ?_);simp only[pv];iterate 8 go_step
   refine rp ?_;refine p_f 190 func190 #[.pointer (some ⟨g3,0,none⟩)] (If w.heap.size g3 _ _ hB sb.size) ?_;rintro _ z17000 ⟨rfl,hb⟩;refine⟨_,rfl,?_⟩;simp only[pv];replace sb:=sb.trans hb;clear hb;refine p_a (Za ?_);simp only[pv];go_wp2;go_ret;exact⟨by rw[HE.out];rfl,sb⟩
  |succ x=>
   have hlt:i<n:=by omega
   obtain⟨ai,ci,gi,oi,ics,ti,ei,hi'⟩:=HS.out i hlt;obtain hx|⟨_,rB,hbt⟩:=(HB.out.below sb).at'
   ·exact absurd hx (by omega)
   have hbi:=hbt i hlt;rw[ei]at hbi;obtain hx|⟨rfl,_,_⟩:=hi'.at'
   ·exact absurd hx (by omega)
   have HI:Hid (NatsAt w (some ⟨gi,oi,none⟩) k (M i) gi oi ics ti):=hi';clear hbt ei hi'
   go_step
   refine rp ?_;refine p_v _ (XK i n) (Za ?_);simp only[pv];iterate 10 go_step
   refine rp ?_;refine p_x i hlt underlying53 sizeOf54 ?_;simp only[pv];refine p_d (ob+i*1) rB (.slice (some ⟨gi,oi,none⟩) k ci) hbi isAgg54 ?_;refine p_a (Za ?_);simp only[pv];clear rB hbi;iterate 3 go_step
   refine rp ?_;refine p_m ?_;simp only[pv];refine p_v _ (n_l (some ⟨gi,oi,none⟩) k ci ZN) ?_;refine p_v (.int .i64 0) (fun _=>rfl) (Za ?_);simp only[pv]
   go_wp2_with fail
   go_loopg [7,30] k (fun y s7 s30 wr=> ∃j:Nat,j+y=k/\s30= .int .i64 j/\OZ wr w.heap.size g3 (UInt8.ofNat n::UInt8.ofNat k::xmT G (i*k+j))/\Below w.heap.size w wr)
   case atStart=>exact⟨0,by omega,rfl,hB,sb⟩
   case round=>
    clear hB sb;obtain⟨j,hj,rfl,hB,sb⟩:=hrel
    cases gk with
    |zero=>
     obtain rfl:j=k:=by omega
     rw[<-Nat.succ_mul]at hB;clear hj
     go_step
     refine rp ?_;refine p_v _ (Xy j j) (Za ?_);simp only[pv];iterate 7 go_step
     refine rp ?_;refine p_v _ (x_a i 1) ?_;refine p_m (Za ?_);simp only[pv];go_wp2
     go_roundg x
     case measure=>omega
     case rel=>exact⟨i+1,by omega,rfl,hB,sb⟩
    |succ y=>
     have hjk:j<k:=by omega
     obtain hx|⟨_,rI,hbt⟩:=(HI.out.below sb).at'
     ·exact absurd hx (by omega)
     have hbj:=hbt j hjk;have hij:=BG hlt hjk;have hlt6:=HGl.out _ hij;have hll:=HL.out _ (Nat.le_of_lt hij)
     have hnx:(UInt8.ofNat n::UInt8.ofNat k::xmT G (i*k+j))++[UInt8.ofNat (need (G (i*k+j)))]++Wd (G (i*k+j)) (need (G (i*k+j)))=(UInt8.ofNat n::UInt8.ofNat k::xmT G (i*k+(j+1))):=by
      show _=UInt8.ofNat n::UInt8.ofNat k::(xmT G (i*k+j)++xmN (G (i*k+j)))
      simp[xmN]
     have hby:=fun w'=>OX (G (i*k+j)) w' hlt6
     rw[show Le (G (i*k+j))=⟨(Wd (G (i*k+j)) (need (G (i*k+j)))).toArray⟩from rfl]at hby;have hbl:=XJ (G (i*k+j)) (need (G (i*k+j)));have hnd:=T8 _ hlt6;rw[HG.out i j hjk]at hbj;clear hbt hlt6;generalize Wd (G (i*k+j)) (need (G (i*k+j)))=L at*;generalize need (G (i*k+j))=nd at*;generalize G (i*k+j)=X at*
     go_step
     refine rp ?_;refine p_v _ (XK j k) (Za ?_);simp only[pv];have cb:=Th sb;iterate 10 go_step
     refine rp ?_;refine p_x j hjk underlying54 ZU ?_;simp only[pv];refine Zf (by rfl) 39 _ rfl _ (oi+j*4) rfl rI (Zc X) hbj _ underlying39 rfl Ze ?_;simp only[pv];refine ZJ (by rfl) 39 rfl _ Zv ?_;intro g7 z11002 n0 r7 k;simp only[pv];have bcbx7:=Nat.le_trans cb.size n0;have b7:=Nat.le_trans sb.size n0;clear n0;replace cb:=cb.trans (k.below _ cb.size (by simp<;>omega));replace sb:=kk sb k;clear k;refine p_p r7 X ?_;clear r7;intro z11003 r7 k;simp only[Act.put];replace cb:=cb.trans (k.below _ cb.size (by simp<;>omega));replace sb:=kk sb k;clear k;refine Za ?_;replace hB:=hB.below cb;clear rI hbj cb;iterate 3 go_step
     refine rp ?_;refine p_l r7.r ?_;simp only[pv];refine p_c 221 func221 #[.agg (Zc X)] (hby _) ?_;intro z12001 k;simp only[pv];replace hB:=hB.below k.nil;replace r7:=k.ro r7;replace sb:=kk sb k;clear k;refine p_a (Za ?_);simp only[pv];clear hby;iterate 3 go_step
     refine rp ?_;refine p_m ?_;simp only[pv];refine p_v (.int .i64 nd) (fun w'=>(YA _ _ rfl L rfl underlying9 w').trans (by rw[hbl])) ?_;simp only[pv];refine p_v (.int .u8 (nd:Nat)) (Q6 _ _ _ rfl .i64 .u8 underlying3 underlying5 (nd:Nat) _ rfl (wr8 _ (by omega))) ?_;simp only[pv];refine p_f 220 func220 #[.pointer (some ⟨g3,0,none⟩),.int .u8 (nd:Nat)] (T9 w.heap.size g3 nd _ _ hB (by omega) (by omega) sb.size) ?_;clear hB;rintro _ z13003 ⟨rfl,hB,hb⟩;refine⟨_,rfl,?_⟩;simp only[pv];replace sb:=sb.trans hb;clear hb;refine Za ?_;iterate 2 go_step
     refine rp ?_;refine p_m ?_;simp only[pv];refine p_f 188 func188 #[.pointer (some ⟨g3,0,none⟩),.string ⟨(L).toArray⟩] (Ie w.heap.size g3 _ _ _ hB (by rw[List.length_append,hbl];simp only[List.length_cons,List.length_nil];simp only[List.length_cons]at hll;omega) sb.size) ?_;clear hB;rintro _ z14001 ⟨rfl,hB,hb⟩;refine⟨_,rfl,?_⟩;simp only[pv];replace sb:=sb.trans hb;clear hb;refine Za ?_;rw[hnx]at hB;iterate 2 go_step
     refine rp ?_;refine p_v _ (x_a j 1) ?_;refine p_m (Za ?_);simp only[pv];go_wp2
     go_roundg y
     case measure=>omega
     case rel=>exact⟨j+1,by omega,rfl,hB,sb⟩
def tkA (l:List UInt8):Nat:=if l.length<=yb l 0 then 0 else OU ⟨((l.take (1+yb l 0)).drop 1).toArray⟩
def tkR (l:List UInt8):List UInt8:=if l.length<=yb l 0 then[]else l.drop (1+yb l 0)
def tkE (l:List UInt8):Int:=if l.length<=yb l 0 then 4 else OV ⟨((l.take (1+yb l 0)).drop 1).toArray⟩
def tkS (r:List UInt8):Nat->List UInt8
 |0=>r
 |t+1=>tkR (tkS r t)
def tkG (r:List UInt8)(t:Nat):Nat:=tkA (tkS r t)
section
variable {P:Program}{ops:Array Oper}{Q:Exit->Act->World->Prop}{rest:List Oper}{a:Act}{w:World}{o:Oper}
end
def ptC (i:Int)(v:Value):Array Value:=#[.int .i64 i,v]
theorem Lp:(prog.info? 84).map (fun i=>(i.zero,i.size))=some (some (.agg (ptC 0 (.slice none 0 0))),2):=by kernel_rfl
theorem FR (w:World):(zeroValue 84).run prog w= .ok (.agg (ptC 0 (.slice none 0 0))) w:=(zero_of_info Lp).1 w
theorem Qx:(prog.info? 84).map (·.size)=some 2:=(zero_of_info Lp).2
theorem Hq (i:Int)(ab:Option Addr)(n c:Nat):(ptC i (.slice ab n c)).all (·.oneCell')=true:=by simp[ptC,Value.oneCell']
theorem Ij (i:Int)(ab:Option Addr)(n c:Nat):prog.built 84 [(0,.int .i64 i),(1,.slice ab n c)]=some (ptC i (.slice ab n c)):=by kernel_rfl
theorem Ik (v:Option Addr)(A g1:Nat)(B:Bool)(w:World)(r1:Row w g1 #[.pointer v] 32)
  (hin: ∀w',Below w.heap.size w w'->Calls prog 226 #[.pointer v,.agg (Zc A)] w' (Rt (.bool B) w')):
  Calls prog 225 #[.agg (Zc A),.pointer (some ⟨g1,0,none⟩)] w fun e w'=>e= .returned (.bool (!B))/\Below w.heap.size w w':=by
 go_enter func225,ntmps225
 have sb:=Z9 w;iterate 2 go_step
 refine rp ?_;refine ZD (by rfl) 39 _ rfl (_) rfl ?_;intro g2 z0 n0 r2 k;simp only[pv];clear n0;replace r1:=k.ro r1;replace sb:=kk sb k;clear k;refine p_v (.bool false) (fun _=>rfl) (Za ?_);simp only[pv];iterate 3 go_step
 refine rp ?_;refine p_d 0 r1.r (.pointer v) rfl isAgg32 ?_;simp only[pv];refine p_l r2.r ?_;simp only[pv];refine p_c 226 func226 #[.pointer v,.agg (Zc A)] (hin _ sb) ?_;intro z1002 k;simp only[pv];replace r1:=k.ro r1;replace r2:=k.ro r2;replace sb:=kk sb k;clear k;refine p_v _ (Zp _ _ rfl B rfl) ?_;refine p_a (Za ?_);simp only[pv];go_wp2;go_ret;exact⟨rfl,sb⟩
theorem FS (v:Option Addr)(ab:Option Addr)(n c:Nat)(Y:Nat->Nat)(gb ob:Nat)(bcs:Array Value)(tb:TypeId)(IB:Nat->Bool)(w:World)(hn:n<4611686018427387904)(hna:NatsAt w ab n Y gb ob bcs tb)
  (hin: ∀k,k<n-> ∀w',Below w.heap.size w w'->Calls prog 226 #[.pointer v,.agg (Zc (Y k))] w' (Rt (.bool (IB k)) w')):
  Calls prog 200 #[.pointer v,.slice ab n c] w fun e w'=>e= .returned (.bool (!anB (fun k=> !IB k) n))/\Below w.heap.size w w':=by
 have hco:=fun w' g2 (hb:Below w.heap.size w w') (r2:Row w' g2 #[.pointer v] 32)=>J6 ab n c Y gb ob bcs tb 225 #[.pointer (some ⟨g2,0,none⟩)] (fun k=> !IB k) w' func225 (by kernel_rfl) hn (hna.below hb) (fun k hk w2 hb2=>Ik v (Y k) g2 (IB k) w2 (r2.belowAll hb2) (fun w3 hb3=>hin k hk w3 (Zk (Zk hb (Nat.le_refl _) hb2) (Nat.le_refl _) hb3)))
 obtain⟨B,hB⟩: ∃B,anB (fun k=> !IB k) n=B:=⟨_,rfl⟩
 rw[hB]at hco ⊢;clear hin hna hB
 go_enter func200,ntmps200
 have sb:=Z9 w;iterate 2 go_step
 refine rp ?_;refine Y4 (by rfl) 32 _ rfl (.pointer v) rfl rfl ?_;intro g2 z0 n0 r2 k;simp only[pv];clear n0;replace sb:=kk sb k;clear k;refine p_v (.bool false) (fun _=>rfl) (Za ?_);simp only[pv];iterate 3 go_step
 refine rp ?_;refine p_m ?_;simp only[pv];refine p_v (.func (.func 225) #[] #[.pointer (some ⟨g2,0,none⟩)]) (YG _ _ rfl _ rfl) ?_;simp only[pv];refine p_c 224 func224 #[.slice ab n c,.func (.func 225) #[] #[.pointer (some ⟨g2,0,none⟩)]] (hco _ g2 sb r2) ?_;intro z1002 k;simp only[pv];replace r2:=k.ro r2;replace sb:=kk sb k;clear k;refine p_v _ (Zp _ _ rfl B rfl) ?_;refine p_a (Za ?_);simp only[pv];go_wp2;go_ret;exact⟨rfl,sb⟩
theorem Lq (v:Value)(i:Nat)(w:World)(hi:i<9223372036854775808):
  Calls prog 234 #[v,.int .i64 (i:Nat)] w fun e w'=>e= .returned (.agg (Zc i))/\Below w.heap.size w w':=by
 have hof:=fun w'=>X1 ((i:Nat):Int) w' (by omega)
 rw[Int.toNat_natCast]at hof
 go_enter func234,ntmps234
 have sb:=Z9 w;iterate 2 go_step
 refine rp ?_;refine ZJ (by rfl) 39 rfl _ Zv ?_;intro g4 z0 n0 r4 k;simp only[pv];have b4:=Nat.le_trans sb.size n0;clear n0;replace sb:=kk sb k;clear k;refine Za ?_;iterate 4 go_step
 refine rp ?_;refine p_m ?_;simp only[pv];refine p_v _ (ZG _ _ _ _ rfl ((i:Nat)) (0) rfl rfl true (decide_eq_true (by omega))) (Za ?_);simp only[pv];iterate 4 go_step
 refine rp ?_;refine p_m ?_;simp only[pv];refine p_c 42 func42 #[.int .i64 (i:Nat)] (hof _) ?_;intro z2001 k;simp only[pv];replace r4:=k.ro r4;replace sb:=kk sb k;clear k;refine p_p r4 i ?_;clear r4;intro z2002 r4 k;simp only[Act.put];replace sb:=kk sb k;clear k;refine Za ?_;go_wp2;exact ZX rfl _ rfl r4 4 _ underlying39 (by exact Ze) rfl ⟨rfl,sb⟩
theorem Il (v:Option Addr)(ab:Option Addr)(n c k x E g1 g2 g3:Nat)(S:Nat->Value)(gb ob:Nat)(bcs:Array Value)(tb:TypeId)(w:World)(hk:k<n)(r1:Row w g1 #[.pointer v] 32)(r2:Row w g2 #[.slice ab n c] 52)(r3:Row w g3 (Zc x) 39)(hna:VsAt w ab n S gb ob bcs tb)
  (hev: ∀w',Below w.heap.size w w'->Calls prog 237 #[.pointer v,S k,.agg (Zc x)] w' (Rt (.agg (Zc E)) w')):
  Calls prog 236 #[.int .i64 k,.pointer (some ⟨g1,0,none⟩),.pointer (some ⟨g2,0,none⟩),.pointer (some ⟨g3,0,none⟩)] w fun e w'=>e= .returned (.agg (Zc E))/\Below w.heap.size w w':=by
 obtain h0|⟨rfl,rB,hbt⟩:=hna.at'
 ·exact absurd h0 (by omega)
 have hbk:=hbt k hk;have HR:Hid (WD w gb bcs tb):=rB;have hbl:=rB.lt;clear hbt hna rB
 go_enter func236,ntmps236
 have sb:=Z9 w;iterate 2 go_step
 refine rp ?_;refine ZJ (by rfl) 39 rfl _ Zv ?_;intro g5 z0 n0 r5 k;simp only[pv];have d1x5:=l_l r1.lt n0;have d2x5:=l_l r2.lt n0;have d3x5:=l_l r3.lt n0;have b5:=Nat.le_trans sb.size n0;clear n0;replace r1:=k.ro r1;replace r2:=k.ro r2;replace r3:=k.ro r3;replace sb:=kk sb k;clear k;refine Za ?_;have rB:=HR.out.belowAll sb;iterate 3 go_step
 apply Zo (by kernel_rfl) [(g5,39,Zc 0)] [_,_,_,_,_,_,_,_] ⟨r5,trivial⟩ (by simp<;>omega)
 ·intro p;refine ZB 32 _ rfl _ (0) rfl r1 (by simp<;>omega) (.pointer v) rfl isAgg32 ?_;simp only[pv];refine ZB 52 _ rfl _ (0) rfl r2 (by simp<;>omega) (.slice (some ⟨gb,ob,none⟩) n c) rfl isAgg52 ?_;refine m_m ?_;simp only[pv];refine m_x k hk underlying52 sizeOf54 ?_;simp only[pv];refine MT 54 _ rfl gb (ob+k*1) rfl rB (by simp<;>omega) (S k) hbk isAgg54 ?_;simp only[pv];refine m_l r3 ?_;simp only[pv];refine m_k 237 func237 #[.pointer v,S k,.agg (Zc x)] (fun w' hk=>hev w' (sb.trans (hk.below w.heap.size sb.size (by simp<;>omega)))) ?_;simp only[pv];refine m_p 0 E ?_;simp only[Act.put];refine Zi ?_;intro w5 hkw hrw hnew hdis;have zr5:Row w5 (g5) (Zc E) 39:=hrw 0 (39,Zc E) rfl;replace sb:=kk sb hkw;clear hkw hrw hnew hdis r5;have r5:=zr5;clear zr5;go_wp2;exact ZX rfl _ rfl r5 4 _ underlying39 (by exact Ze) rfl ⟨rfl,sb⟩
 ·kernel_rfl
theorem FT (v:Option Addr)(ab:Option Addr)(n c i:Nat)(S:Nat->Value)(gb ob:Nat)(bcs:Array Value)(tb:TypeId)(E:Nat->Nat)(w:World)(hi:i<9223372036854775808)(hn:n<=4000)(hna:VsAt w ab n S gb ob bcs tb)
  (hgr: ∀w',Below w.heap.size w w'->Calls prog 233 #[.pointer v] w' (Rt (.bool true) w'))
  (hev: ∀k,k<n-> ∀w',Below w.heap.size w w'->Calls prog 237 #[.pointer v,S k,.agg (Zc i)] w' (Rt (.agg (Zc (E k))) w')):
  Calls prog 203 #[.pointer v,.slice ab n c,.int .i64 (i:Nat)] w fun e w'=> ∃gY,e= .returned (.agg (ptC (i:Nat) (.slice (some ⟨gY,0,none⟩) n n)))/\w.heap.size<=gY/\Row w' gY (nsC n E) 39/\Below w.heap.size w w':=by
 have hto:=fun w' g3 g4 g7 (hb:Below w.heap.size w w') (r3:Row w' g3 #[.pointer v] 32) (r4:Row w' g4 #[.slice ab n c] 52) (r7:Row w' g7 (Zc i) 39)=>Ll n 236 #[.pointer (some ⟨g3,0,none⟩),.pointer (some ⟨g4,0,none⟩),.pointer (some ⟨g7,0,none⟩)] E w' func236 (by kernel_rfl) hn (fun k hk w2 hb2=>Il v ab n c k i (E k) g3 g4 g7 S gb ob bcs tb w2 hk (r3.belowAll hb2) (r4.belowAll hb2) (r7.belowAll hb2) (hna.below (Zk hb (Nat.le_refl _) hb2)) (fun w3 hb3=>hev k hk w3 (Zk (Zk hb (Nat.le_refl _) hb2) (Nat.le_refl _) hb3)))
 have hpl:=fun w'=>Lq (.pointer v) i w' hi
 clear hev hna
 go_enter func203,ntmps203
 have sb:=Z9 w;iterate 2 go_step
 refine rp ?_;refine Y4 (by rfl) 32 _ rfl (.pointer v) rfl rfl ?_;intro g3 z0 n0 r3 k;simp only[pv];clear n0;replace sb:=kk sb k;clear k;refine Y4 (by rfl) 52 _ rfl (.slice ab n c) rfl rfl ?_;intro g4 z1 n0 r4 k;simp only[pv];clear n0;replace r3:=k.ro r3;replace sb:=kk sb k;clear k;refine ZJ (by rfl) 84 rfl _ FR ?_;intro g6 z2 n0 r6 k;simp only[pv];have d3x6:=l_l r3.lt n0;have d4x6:=l_l r4.lt n0;have b6:=Nat.le_trans sb.size n0;clear n0;replace r3:=k.ro r3;replace r4:=k.ro r4;replace sb:=kk sb k;clear k;refine Za ?_;iterate 4 go_step
 refine rp ?_;refine p_d 0 r3.r (.pointer v) rfl isAgg32 ?_;simp only[pv];refine p_c 233 func233 #[.pointer v] (hgr _ sb) ?_;intro z1001 k;simp only[pv];replace r3:=k.ro r3;replace r4:=k.ro r4;replace r6:=k.ro r6;replace sb:=kk sb k;clear k;refine p_v _ (Zp _ _ rfl true rfl) (Za ?_);simp only[pv];iterate 7 go_step
 refine rp ?_;refine p_d 0 r3.r (.pointer v) rfl isAgg32 ?_;refine p_m ?_;simp only[pv];refine p_c 234 func234 #[.pointer v,.int .i64 (i:Nat)] (hpl _) ?_;intro z3002 k;simp only[pv];replace r3:=k.ro r3;replace r4:=k.ro r4;replace r6:=k.ro r6;replace sb:=kk sb k;clear k;refine ZJ (by rfl) 39 rfl _ Zv ?_;intro g7 z3003 n0 r7 k;simp only[pv];have d3x7:=l_l r3.lt n0;have d4x7:=l_l r4.lt n0;have d6x7:=l_l r6.lt n0;have b7:=Nat.le_trans sb.size n0;clear n0;replace r3:=k.ro r3;replace r4:=k.ro r4;replace r6:=k.ro r6;replace sb:=kk sb k;clear k;refine p_p r7 i ?_;clear r7;intro z3004 r7 k;simp only[Act.put];replace r3:=k.ro r3;replace r4:=k.ro r4;replace r6:=k.ro r6;replace sb:=kk sb k;clear k;refine Za ?_;iterate 3 go_step
 refine rp ?_;refine p_m ?_;simp only[pv];refine p_d 0 r4.r (.slice ab n c) rfl isAgg52 ?_;simp only[pv];refine p_v _ (n_l ab n c FG) ?_;simp only[pv];refine p_v (.func (.func 236) #[] #[.pointer (some ⟨g3,0,none⟩),.pointer (some ⟨g4,0,none⟩),.pointer (some ⟨g7,0,none⟩)]) (YG _ _ rfl _ rfl) ?_;simp only[pv];refine p_f 235 func235 #[.int .i64 n,.func (.func 236) #[] #[.pointer (some ⟨g3,0,none⟩),.pointer (some ⟨g4,0,none⟩),.pointer (some ⟨g7,0,none⟩)]] (hto _ g3 g4 g7 sb r3 r4 r7) ?_;rintro _ z4004 ⟨gY,rfl,nY,rY,hb⟩;refine⟨_,rfl,?_⟩;simp only[pv];have d6xY:=l_l r6.lt nY;have bY:=Nat.le_trans sb.size nY;clear nY;have k:=Kept.ofBelow hb;clear hb;replace r3:=k.ro r3;replace r4:=k.ro r4;replace r6:=k.ro r6;replace r7:=k.ro r7;replace sb:=kk sb k;clear k;refine p_v _ (Zm _ [(0,.tmp 15),(1,.tmp 19)] rfl [(0,.int .i64 (i:Nat)),(1,.slice (some ⟨gY,0,none⟩) n n)] rfl (ptC (i:Nat) (.slice (some ⟨gY,0,none⟩) n n)) (Ij _ _ _ _)) ?_;simp only[pv];refine Z0 (by rfl) 84 _ _ rfl _ rfl r6 (ptC (i:Nat) (.slice (some ⟨gY,0,none⟩) n n)) rfl (by exact Qx) (by rfl) (Hq _ _ _ _) ?_;clear r6;intro z4006 r6 k;simp only[Act.put];replace r3:=k.ro r3;replace r4:=k.ro r4;replace r7:=k.ro r7;replace rY:=k.ro rY;replace sb:=kk sb k;clear k;refine Za ?_;go_wp2;exact YP rfl _ rfl r6 _ underlying84 Qx rfl ⟨gY,rfl,bY,rY,sb⟩
theorem DV {P:Program}{o:Oper}{ρ:Operand->Value}(t:TypeId)(x:Operand)(ho:o.op= .call {callee:=.builtin .cap,args:=#[x],argTypes:=#[t]})(ab:Option Addr)(n c:Nat)(hx:ρ x= .slice ab n c)(hu:P.underlying t=some (.slice (P.elem t)))(w:World):
  (execOp ρ o).run P w= .ok (.value (.int .i64 c)) w:=by
 unfold execOp;simp only[ho];simp[resolve,invoke,builtin,hx,Builtin.cap_,run_underlying hu,goInt]
section
variable {ops:Array Oper}{Q:Exit->Act->World->Prop}{rest:List Oper}{o:Oper}{a:Act}{w:World}
theorem Im (hw:Region.wanted o (yielded ops a.tmps)=true)(s x:Operand)(ho:o.op= .call {callee:=.builtin .append,args:=#[s,x],argTypes:=#[54,3]})
  (base m:Nat)(hs:a.eval s= .slice none 0 0)(hx:a.eval x= .int .i64 m)(h0:0<m)(hn:m<=1000)(hbase:base<=w.heap.size)
  (h: ∀g c w',(∀f,Ve w' base (.slice (some ⟨g,0,none⟩) 0 c) 0 f)->m<=c->Kept [] w w'->PW prog ops Q rest (a.put o.dst (.slice (some ⟨g,0,none⟩) m c)) w'):PW prog ops Q (o::rest) a w:=by
 obtain⟨i,hi,hz,hsz,hby⟩:=YL;have hm: ¬m=0:=by omega
 have hns: ¬(m*i.size=0):=by rw[hsz];omega
 have hw':IntKind.i64.wrap (m:Int)=m:=by rw[IntKind.wrap_i64];omega
 have hneg: ¬((m:Int)<0):=by omega
 have h48i: ¬(281474976710656<(m:Int)*(i.bytes:Int)):=by rw[hby];omega
 have h63': ¬(9223372036854775807<(m:Int)):=by omega
 have h48': ¬(281474976710656<Builtin.nextslicecap m 0*i.bytes):=by
  have:=growslice_fits (need:=m) (old:=0) (bytes:=i.bytes) (by omega) (by rw[hby];omega);omega
 have hge:=grownCap_ge w m 0 39;have hcm:=grownCap_le_maxLen w m 0 39 (by unfold maxLen;omega);have hfo:=run_firstCells_none (P:=prog) w.drew i.size 0 0 0
 have hr:(Builtin.append_ #[54,3] o.type #[.slice none 0 0,.int .i64 m]).run prog w= .ok (.slice (some ⟨w.heap.size,0,none⟩) m (grownCap w m 0 39))
   (w.drew.alloc (.cells (Builtin.zeroCells (Value.agg #[.int .u64 0,.int .u64 0,.int .u64 0,.int .u64 0]).cells m++Builtin.zeroCells (Value.agg #[.int .u64 0,.int .u64 0,.int .u64 0,.int .u64 0]).cells (grownCap w m 0 39-m)) 39)):=by
  simp[Builtin.append_,run_underlying underlying54,run_underlying underlying3,sizeOf,typeInfo,zeroValue,hi,hz,asInt,asIntOf,hw',hm,hneg,hns,h48i,h63',h48',Question.forced,hfo,newRow,grownCap]
 obtain⟨cc,hcc⟩: ∃cc:Array Value,cc=Builtin.zeroCells (Value.agg #[.int .u64 0,.int .u64 0,.int .u64 0,.int .u64 0]).cells m++Builtin.zeroCells (Value.agg #[.int .u64 0,.int .u64 0,.int .u64 0,.int .u64 0]).cells (grownCap w m 0 39-m):=⟨_,rfl⟩
 rw[<-hcc]at hr;refine Xt hw (.slice (some ⟨w.heap.size,0,none⟩) m (grownCap w m 0 39)) (w.drew.alloc (.cells cc 39)) ?_ (h w.heap.size (grownCap w m 0 39) (w.drew.alloc (.cells cc 39)) (fun f=>⟨?_,.inr ⟨w.heap.size,grownCap w m 0 39,cc,rfl,hbase,heap_alloc_new w.drew _,Nat.zero_le _,hcm,?_,?_⟩⟩) hge ⟨rfl,rfl,rfl,by simp,fun k hk _=>_root_.Go.heap_alloc_old w.drew _ hk⟩)
 ·unfold execOp;simp only[ho,resolve,invoke,builtin,Sem.run_bind,Sem.run_pure,Result.andThen_ok,List.map_toArray,List.map_cons,List.map_nil,hs,hx,hr]
 ·rw[Array.length_toList,Z7]
 ·have hz4:(Value.agg #[.int .u64 0,.int .u64 0,.int .u64 0,.int .u64 0]).cells.size=4:=rfl;rw[hcc,Array.size_append,size_zeroCells,size_zeroCells,hz4];omega
 ·have e:(nsC 0 f).toList=[]:=by
   apply List.eq_nil_of_length_eq_zero;rw[Array.length_toList,Z7]
  rw[e,Nat.zero_mul];rfl
theorem O2 {ab:Option Addr}{m gx ox:Nat}{F:Nat->Nat}{bcs:Array Value}{tb:TypeId}(hna:NatsAt w ab m F gx ox bcs tb)(h0:0<m): ∀j u,(nsC m F).toList[j]?=some u->w.cell? ((⟨gx,ox,none⟩:Addr).add j)=some u:=by
 intro j u hu;obtain h|⟨_,rB,hb⟩:=hna.at'
 ·omega
 rw[Array.getElem?_toList]at hu
 have hj:j<4*m:=by
  have:=(Array.getElem?_eq_some_iff.1 hu).1;rw[Z7]at this;omega
 rw[Y8 m F j hj]at hu;have h4:j%4<4:=Nat.mod_lt _ (by decide);have:=hb (j/4) (by omega) (j%4) _ (by rw[Array.getElem?_toList];exact Yi (F (j/4)) (j%4) h4);rw[Addr.add_mid,rB.cell,show ox+j=ox+j/4*4+j%4 by omega,this];exact hu
theorem In (hw:Region.wanted o (yielded ops a.tmps)=true)(s x:Operand)(ho:o.op= .call {callee:=.builtin .append,args:=#[s,x],argTypes:=#[54,54]})
  (base:Nat)(v:Value)(n:Nat)(f:Nat->Nat)(hs:a.eval s=v)(hown:Ve w base v n f)(gx ox m c:Nat)(hx:a.eval x= .slice (some ⟨gx,ox,none⟩) m c){ab:Option Addr}{bcs:Array Value}{tb:TypeId}(hna:NatsAt w ab m (fun i=>f (n+i)) gx ox bcs tb)(h0:0<m)(hn:n+m<=1000)(hbase:base<=w.heap.size)
  (h: ∀v' w',Ve w' base v' (n+m) f->Kept v.ownBlock.toList w w'->PW prog ops Q rest (a.put o.dst v') w'):PW prog ops Q (o::rest) a w:=by
 obtain⟨i,hi,hz,hsz,hby⟩:=YL;obtain⟨v',w',hr,h2,h3,_⟩:=run_append_own (P:=prog) w base 54 o.type 39 i _ 4 32 underlying54 hi hz hsz hby rfl (by decide) v n _ hown ⟨gx,ox,none⟩ m c (nsC m (fun i=>f (n+i))).toList (by rw[Array.length_toList,Z7,Nat.mul_comm]) (O2 hna h0) (WH (Qs _ _)) (by unfold maxLen;omega) (by omega) hbase;rw[T5]at h2;refine Xt hw v' w' ?_ (h v' w' h2 ⟨h3.os,h3.tape,h3.output,h3.size,fun k hk hn=>h3.block k hk fun e=>?_⟩)
 ·unfold execOp;simp only[ho,resolve,invoke,builtin,Sem.run_bind,Sem.run_pure,Result.andThen_ok,List.map_toArray,List.map_cons,List.map_nil,hs,hx,hr]
 ·rw[<-e]at hn;simp at hn
end
theorem Io (n:Nat)(w:World)(h0:0<n)(hn:n<=1000):
  Calls prog 227 #[.slice none 0 0,.int .i64 n] w fun e w'=> ∃g c,e= .returned (.slice (some ⟨g,0,none⟩) 0 c)/\(∀f,Ve w' w.heap.size (.slice (some ⟨g,0,none⟩) 0 c) 0 f)/\Below w.heap.size w w':=by
 go_enter func227,ntmps227
 have sb:=Z9 w;iterate 2 go_step
 refine rp ?_;refine YI (by rfl) (.inr rfl) rfl ?_;simp only[pv];refine Za ?_;iterate 4 go_step
 refine rp ?_;refine p_m ?_;refine p_v _ (Xy n 0) (Za ?_);simp only[pv];iterate 8 go_step
 refine rp ?_;refine p_m ?_;refine p_m ?_;simp only[pv];refine p_v _ (DV _ _ rfl none 0 0 rfl ZN) ?_;refine p_m ?_;simp only[pv];refine p_v _ (n_l none ((0:Nat)) 0 ZN) ?_;simp only[pv];refine p_v _ (ZT _ _ _ _ rfl 0 0 rfl rfl (by omega) (by omega)) ?_;simp only[pv];refine p_v _ (ZT _ _ _ _ rfl n 0 rfl rfl (by omega) (by omega)) ?_;refine p_a (Za ?_);simp only[pv];iterate 3 go_step
 refine rp ?_;refine p_m ?_;simp only[pv];refine p_v _ (Jp (n-0:Nat) 0) (Za ?_);simp only[pv];iterate 3 go_step
 refine rp ?_;refine p_m ?_;refine p_m ?_;simp only[pv];refine p_v _ (DV _ _ rfl none 0 0 rfl ZN) ?_;simp only[pv];refine p_v _ (T2 _ _ _ rfl ZN 4 Vu none 0 0 0 rfl rfl (by omega)) ?_;refine p_m ?_;simp only[pv];refine Im (by rfl) _ _ rfl w.heap.size (n-0) rfl rfl (by omega) (by omega) sb.size ?_;intro g1 c1 z5005 hO hc1 k;simp only[pv];replace sb:=kk sb k;clear k;refine p_m ?_;simp only[pv];refine p_v _ (n_l none ((0:Nat)) 0 ZN) ?_;simp only[pv];refine p_v _ (T2 _ _ _ rfl ZN 4 Vu (some ⟨g1,0,none⟩) (n-0) c1 0 rfl rfl (by omega)) ?_;simp only[pv];refine p_a ?_;simp only[Act.put,List.setIfInBounds_toArray,List.set_cons_zero];refine Za ?_;iterate 3 go_step
 refine rp ?_;refine p_m ?_;refine p_a (Za ?_);simp only[pv];go_wp2;go_ret;exact⟨g1,c1,rfl,hO,sb⟩
def ctS (N:Nat->Nat):Nat->Nat
 |0=>0
 |k+1=>ctS N k+N k
theorem DX (N:Nat->Nat){k q:Nat}(h:k<=q):ctS N k<=ctS N q:=by
 induction q with
 |zero=>rw[Nat.le_zero.1 h];exact Nat.le_refl _
 |succ q ih=>
  by_cases e:k=q+1
  ·rw[e];exact Nat.le_refl _
  ·exact Nat.le_trans (ih (by omega)) (Nat.le_add_right _ _)
theorem O3 (q gA oA cA:Nat)(A O N C:Nat->Nat)(F:Nat->Nat)(acs:Array Value)(tA:TypeId)(w:World)(hq:q<=1000)(h0:0<ctS N q)(hL:ctS N q<=1000)(hN: ∀k,k<q->0<N k)(hna:VsAt w (some ⟨gA,oA,none⟩) q (fun k=>.slice (some ⟨A k,O k,none⟩) (N k) (C k)) gA oA acs tA)(hF: ∀k,k<q-> ∃ab bcs tb,NatsAt w ab (N k) (fun i=>F (ctS N k+i)) (A k) (O k) bcs tb):
  Calls prog 201 #[.slice (some ⟨gA,oA,none⟩) q cA] w fun e w'=> ∃v,e= .returned v/\Ve w' w.heap.size v (ctS N q) F/\Below w.heap.size w w':=by
 have hgr:=fun w'=>Io (ctS N q) w' h0 hL
 have HC:Hid (∀k,k<q->ctS N (k+1)<=ctS N q):=fun k hk=>DX N hk
 have HB:Hid (VsAt w (some ⟨gA,oA,none⟩) q (fun k=>.slice (some ⟨A k,O k,none⟩) (N k) (C k)) gA oA acs tA):=hna;clear hna
 go_enter func201,ntmps201
 have sb:=Z9 w;iterate 2 go_step
 refine rp ?_;refine YI (by rfl) (.inr rfl) rfl ?_;simp only[pv];refine Za ?_;iterate 3 go_step
 refine rp ?_;refine p_v (.int .i64 0) (fun _=>rfl) (Za ?_);simp only[pv];iterate 4 go_step
 refine rp ?_;refine p_m ?_;simp only[pv];refine p_v _ (n_l (some ⟨gA,oA,none⟩) q cA FG) ?_;refine p_v (.int .i64 0) (fun _=>rfl) (Za ?_);simp only[pv]
 go_wp2_with fail
 go_loopg [3,5,11] q (fun x s3 s5 s11 wr=> ∃k:Nat,k+x=q/\s11= .int .i64 k/\s3= .int .i64 (ctS N k:Nat)/\Below w.heap.size w wr)
 case atStart=>exact⟨0,by omega,rfl,rfl,sb⟩
 case round=>
  clear sb;obtain⟨k,hk,rfl,rfl,sb⟩:=hrel
  cases gk with
  |succ x=>
   have hlt:k<q:=by omega
   have hc1:=HC.out k hlt;have hc2:ctS N (k+1)=ctS N k+N k:=rfl;obtain hx|⟨_,rB,hbt⟩:=(HB.out.below sb).at'
   ·exact absurd hx (by omega)
   have hbk:=hbt k hlt;clear hbt hgr
   go_step
   refine rp ?_;refine p_v _ (XK k q) (Za ?_);simp only[pv];iterate 10 go_step
   refine rp ?_;refine p_x k hlt underlying52 sizeOf54 ?_;simp only[pv];refine p_d (oA+k*1) rB (.slice (some ⟨A k,O k,none⟩) (N k) (C k)) hbk isAgg54 ?_;refine p_a (Za ?_);simp only[pv];clear rB hbk;iterate 3 go_step
   refine rp ?_;refine p_m ?_;refine p_m ?_;simp only[pv];refine p_v _ (n_l (some ⟨A k,O k,none⟩) (N k) (C k) ZN) ?_;simp only[pv];refine p_v _ (x_a (ctS N k) (N k)) ?_;refine p_a (Za ?_);simp only[pv];iterate 3 go_step
   refine rp ?_;refine p_m ?_;simp only[pv];refine p_v _ (Xy (ctS N k+N k:Nat) 0) (Za ?_);simp only[pv];iterate 6 go_step
   refine rp ?_;refine p_v _ (x_a k 1) ?_;refine p_m (Za ?_);simp only[pv];go_wp2
   go_roundg x
   case measure=>omega
   case rel=>exact⟨k+1,by omega,rfl,rfl,sb⟩
  |zero=>
   obtain rfl:k=q:=by omega
   clear hk
   go_step
   refine rp ?_;refine p_v _ (Xy k k) (Za ?_);simp only[pv];have hs1:=sb.size;iterate 8 go_step
   refine rp ?_;refine p_m ?_;simp only[pv];refine p_f 227 func227 #[.slice none 0 0,.int .i64 (ctS N k:Nat)] (hgr _) ?_;rintro _ z9001 ⟨g1,c1,rfl,hO1,hb⟩;refine⟨_,rfl,?_⟩;simp only[pv];have k:=Kept.ofBelow hb;clear hb;replace sb:=kk sb k;clear k;refine p_a (Za ?_);simp only[pv];have hO:=Ve.from (hO1 F) hs1
   clear hO1 hgr hs1;iterate 4 go_step
   refine rp ?_;refine p_m ?_;simp only[pv];refine p_v _ (n_l (some ⟨gA,oA,none⟩) k cA FG) ?_;refine p_v (.int .i64 0) (fun _=>rfl) (Za ?_);simp only[pv]
   go_wp2_with fail
   go_loopg [6,8,27] k (fun x s6 s8 s27 wr=> ∃j:Nat,j+x=k/\s27= .int .i64 j/\Ve wr w.heap.size s6 (ctS N j) F/\Below w.heap.size w wr)
   case atStart=>exact⟨0,by omega,rfl,hO,sb⟩
   case round=>
    clear hO sb;obtain⟨j,hj,rfl,hO,sb⟩:=hrel
    cases gk with
    |succ x=>
     have hlt:j<k:=by omega
     have hc1:=HC.out j hlt;have hc2:ctS N (j+1)=ctS N j+N j:=rfl;have hnj:=hN j hlt;obtain hx|⟨_,rB,hbt⟩:=(HB.out.below sb).at'
     ·exact absurd hx (by omega)
     have hbk:=hbt j hlt;obtain⟨ab,bcs,tb,hJ⟩:=hF j hlt;have hJs:=hJ.below sb;clear hbt hJ
     go_step
     refine rp ?_;refine p_v _ (XK j k) (Za ?_);simp only[pv];iterate 10 go_step
     refine rp ?_;refine p_x j hlt underlying52 sizeOf54 ?_;simp only[pv];refine p_d (oA+j*1) rB (.slice (some ⟨A j,O j,none⟩) (N j) (C j)) hbk isAgg54 ?_;refine p_a (Za ?_);simp only[pv];clear rB hbk;iterate 2 go_step
     refine rp ?_;refine p_m ?_;refine p_m ?_;simp only[pv];have h0:=hO;refine In (by rfl) _ _ rfl w.heap.size _ (ctS N j) F rfl hO (A j) (O j) (N j) (C j) rfl hJs hnj (by omega) sb.size ?_;clear hO;intro v1 z13002 hO k;simp only[pv];replace sb:=sb.trans (k.below w.heap.size sb.size h0.base);clear k h0;refine p_a (Za ?_);simp only[pv];clear hJs;iterate 2 go_step
     refine rp ?_;refine p_v _ (x_a j 1) ?_;refine p_m (Za ?_);simp only[pv];go_wp2
     go_roundg x
     case measure=>omega
     case rel=>exact⟨j+1,by omega,rfl,hO,sb⟩
    |zero=>
     obtain rfl:j=k:=by omega
     clear hj
     go_step
     refine rp ?_;refine p_v _ (Xy j j) (Za ?_);simp only[pv];iterate 8 go_step
     refine rp ?_;refine p_m ?_;refine p_a (Za ?_);simp only[pv];go_wp2;go_ret;exact⟨_,rfl,hO,sb⟩
open Go.ChangeShapes Go.WideShapes Go.ChangeAt Go.RowKit
end Go.Proofs.YtcdahmommonnfaaGreatDoor
