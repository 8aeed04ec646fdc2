import Derived.Test.YtcdahmommonnfaaGreatDoorJ9
set_option maxRecDepth 100000
set_option maxHeartbeats 8000000
namespace Go.Proofs.YtcdahmommonnfaaGreatDoor
set_option linter.all false
def byN (q:Nat):Nat:=(bitLen q+7)/8
def QA (q:Nat)(l:List UInt8):Nat:=WR l%2^bitLen q
def QB (q:Nat):Nat->List UInt8->Option (Nat×List UInt8)
 |0,_=>none
 |g+1,r=>if r.length<byN q then none else if QA q (r.take (byN q))<q then some (QA q (r.take (byN q)),r.drop (byN q))else QB q g (r.drop (byN q))
def drw (q:Nat)(s:List UInt8):Option (Nat×List UInt8):=QB q (s.length+1) s
theorem PV {q g:Nat}{r:List UInt8}(h:r.length<byN q):QB q (g+1) r=none:=by
 unfold QB;rw[if_pos h]
theorem PX {q g:Nat}{r:List UInt8}(h: ¬r.length<byN q)(ht:QA q (r.take (byN q))<q):QB q (g+1) r=some (QA q (r.take (byN q)),r.drop (byN q)):=by
 unfold QB;rw[if_neg h,if_pos ht]
theorem Rw {q g:Nat}{r:List UInt8}(h: ¬r.length<byN q)(ht: ¬QA q (r.take (byN q))<q):QB q (g+1) r=QB q g (r.drop (byN q)):=by
 rw[QB,if_neg h,if_neg ht]
theorem Lz {q:Nat}: ∀(g:Nat) (r:List UInt8) (x:Nat) (t:List UInt8),QB q g r=some (x,t)->x<q/\t.length+byN q<=r.length/\t=r.drop (r.length-t.length)
 |0,_,_,_,h=>by cases h
 |g+1,r,x,t,h=>by
  by_cases h1:r.length<byN q
  ·rw[PV h1]at h;cases h
  by_cases h2:QA q (r.take (byN q))<q
  ·rw[PX h1 h2]at h;cases h
   refine⟨h2,by simp;omega,?_⟩;rw[List.length_drop,show r.length-(r.length-byN q)=byN q by omega]
  ·rw[Rw h1 h2]at h;obtain⟨a,b,c⟩:=Lz g _ x t h;rw[List.length_drop]at b c;refine⟨a,by omega,?_⟩;rw[List.drop_drop]at c;rw[show r.length-t.length=byN q+(r.length-byN q-t.length) by omega];exact c
def drN (q:Nat)(s:List UInt8):Nat:=match drw q s with|none=>0|some (x,_)=>x
def drT (q:Nat)(s:List UInt8):List UInt8:=match drw q s with|none=>s|some (_,t)=>t
def drB (q:Nat)(s:List UInt8):Bool:=(drw q s).isSome
def drE (q:Nat)(s:List UInt8):Int:=match drw q s with|none=>5|some _=>0
def drU (q:Nat)(s:List UInt8):Nat:=s.length-(drT q s).length
theorem QC {q:Nat}{s:List UInt8}(h:drw q s=none):drN q s=0/\drT q s=s/\drB q s=false/\drE q s=5/\drU q s=0:=by
 unfold drU drN drT drB drE;rw[h];exact⟨rfl,rfl,rfl,rfl,Nat.sub_self _⟩
theorem Sa {q x:Nat}{s t:List UInt8}(h:drw q s=some (x,t)):drN q s=x/\drT q s=t/\drB q s=true/\drE q s=0/\drU q s=s.length-t.length:=by
 unfold drU drN drT drB drE;rw[h];exact⟨rfl,rfl,rfl,rfl,rfl⟩
theorem D4 {q x:Nat}{s t:List UInt8}(h:drw q s=some (x,t)):x<q/\t.length+byN q<=s.length/\t=s.drop (s.length-t.length):=Lz _ _ _ _ h
theorem D5 {q:Nat}(s:List UInt8)(h:0<q):drN q s<q:=by
 cases hd:drw q s with
 |none=>rw[(QC hd).1];exact h
 |some y=>rw[(Sa (x:=y.1) (t:=y.2) hd).1];exact(D4 (x:=y.1) (t:=y.2) hd).1
def dst (q:Nat)(s:List UInt8):Nat->Option (List UInt8)
 |0=>some s
 |i+1=>(dst q s i).bind fun r=>(drw q r).map (·.2)
def dwf (q:Nat)(s:List UInt8)(i:Nat):Nat:=match dst q s i with|none=>0|some r=>drN q r
theorem Hw {q:Nat}{s:List UInt8}{i:Nat}(h:dst q s i=none): ∀k,dst q s (i+k)=none
 |0=>h
 |k+1=>by
  show(dst q s (i+k)).bind _=none
  rw[Hw h k];rfl
theorem Ix {q x:Nat}{s r t:List UInt8}{i:Nat}(h:dst q s i=some r)(hd:drw q r=some (x,t)):dst q s (i+1)=some t/\dwf q s i=x:=by
 constructor
 ·show(dst q s i).bind _=_
  rw[h];simp[hd]
 ·unfold dwf;rw[h];exact(Sa hd).1
theorem Iy {q n:Nat}{s r:List UInt8}{i:Nat}(h:dst q s i=some r)(hd:drw q r=none)(hi:i<n):dst q s n=none:=by
 have h1:dst q s (i+1)=none:=by
  show(dst q s i).bind _=_
  rw[h];simp[hd]
 have:=Hw h1 (n-(i+1))
 rwa [show i+1+(n-(i+1))=n by omega]at this
theorem Hx {q:Nat}(s:List UInt8)(i:Nat)(h:0<q):dwf q s i<q:=by
 unfold dwf
 cases dst q s i with
 |none=>exact h
 |some r=>exact D5 r h
def dwN (q:Nat)(s:List UInt8)(n:Nat):Nat:=match dst q s n with|none=>0|some _=>n
def dwT (q:Nat)(s:List UInt8)(n:Nat):List UInt8:=match dst q s n with|none=>s|some r=>r
def dwB (q:Nat)(s:List UInt8)(n:Nat):Bool:=(dst q s n).isSome
def dwE (q:Nat)(s:List UInt8)(n:Nat):Int:=match dst q s n with|none=>5|some _=>0
def dwU (q:Nat)(s:List UInt8)(n:Nat):Nat:=s.length-(dwT q s n).length
theorem LA {q n:Nat}{s:List UInt8}(h:dst q s n=none):dwN q s n=0/\dwT q s n=s/\dwB q s n=false/\dwE q s n=5/\dwU q s n=0:=by
 unfold dwU dwN dwT dwB dwE;rw[h];exact⟨rfl,rfl,rfl,rfl,Nat.sub_self _⟩
theorem LB {q n:Nat}{s r:List UInt8}(h:dst q s n=some r):dwN q s n=n/\dwT q s n=r/\dwB q s n=true/\dwE q s n=0/\dwU q s n=s.length-r.length:=by
 unfold dwU dwN dwT dwB dwE;rw[h];exact⟨rfl,rfl,rfl,rfl,rfl⟩
def Xb:List UInt8->List UInt8
 |[]=>[]
 |b::l=>if b=0 then Xb l else b::l
theorem Tl: ∀l,WR (Xb l)=WR l
 |[]=>rfl
 |b::l=>by
  unfold Xb
  split
  ·rename_i h
   subst h;rw[Tl l];rfl
  ·rfl
theorem Rx: ∀l,(Xb l).length<=l.length
 |[]=>Nat.le_refl _
 |b::l=>by
  unfold Xb
  split
  ·have:=Rx l;simp;omega
  ·exact Nat.le_refl _
theorem Tm: ∀l,(Xb l)[0]?≠some 0
 |[]=>by simp[Xb]
 |b::l=>by
  unfold Xb
  split
  ·exact Tm l
  ·rename_i h
   simpa using h
theorem LC {b:UInt8}{l:List UInt8}(h:b=0):Xb (b::l)=Xb l:=by
 rw[Xb,if_pos h]
theorem O7 {b:UInt8}{l:List UInt8}(h: ¬b=0):Xb (b::l)=b::l:=by
 rw[Xb,if_neg h]
theorem O8 {q:Nat}(h:0<q):0<bitLen q:=by
 unfold bitLen;rw[if_neg (by omega)];omega
theorem F5 {q:Nat}(h:0<q):0<byN q:=by
 have:=O8 h;unfold byN;omega
theorem D6 (x b:Nat)(hb:b<=256):x*2^(256-b)%2^256/2^(256-b)=x%2^b:=by
 have h:2^256=2^b*2^(256-b):=by rw[<-Nat.pow_add];congr 1;omega
 rw[h,Nat.mul_mod_mul_right,Nat.mul_div_cancel _ (Nat.two_pow_pos _)]
open Go.RowKit
open Go.Proofs.Tryz
def tpC (m:Bool)(s:List UInt8):Array Value:=#[.bool m,.string ⟨s.toArray⟩]
theorem PY (m:Bool)(s:List UInt8):(tpC m s).all (·.oneCell')=true:=by simp[tpC,Value.oneCell']
theorem LD:(prog.info? 132).map (fun i=>(i.zero,i.size))=some (some (.agg (tpC false [])),2):=by kernel_rfl
theorem LE (w:World):(zeroValue 132).run prog w= .ok (.agg (tpC false [])) w:=(zero_of_info LD).1 w
theorem WK:(prog.info? 132).map (·.size)=some 2:=(zero_of_info LD).2
theorem Iz (s:List UInt8):prog.built 132 [(0,.bool true),(1,.string ⟨s.toArray⟩)]=some (tpC true s):=by
 unfold tpC;generalize (⟨s.toArray⟩:ByteArray)=b
 kernel_rfl
theorem D7 (m:Bool)(s u:List UInt8):(tpC m s).setIfInBounds 1 (.string ⟨u.toArray⟩)=tpC m u:=rfl
theorem Xx:(prog.info? 9).map (·.size)=some 1:=by kernel_rfl
theorem D8:prog.underlying 29=some (.pointer (prog.pointee 29)):=by kernel_rfl
theorem D9 {P:Program}{o:Oper}{ρ:Operand->Value}(t:TypeId)(x y:Operand)(u:TypeId)(ho:o.op= .binOp .lss t x y u)(n m:Int)(hx:ρ x= .int .u8 n)(hy:ρ y= .int .u8 m)(b:Bool)(hb:decide (n<m)=b)(w:World):
  (execOp ρ o).run P w= .ok (.value (.bool b)) w:=by
 subst hb;unfold execOp;simp only[ho,hx,hy];simp[go_sem]
def BN (w:World)(v:Option Addr)(m:Bool)(s:List UInt8):Prop:=(v=none/\m=false)∨ ∃g,v=some ⟨g,0,none⟩/\Row w g (tpC m s) 132
theorem BN.below {w w':World}{v:Option Addr}{m:Bool}{s:List UInt8}(h:BN w v m s)(hb:Below w.heap.size w w'):BN w' v m s:=h.imp id fun⟨g,h1,h2⟩=>⟨g,h1,h2.belowAll hb⟩
theorem Vx (g0:Nat)(m:Bool)(s:List UInt8)(w:World)(r0:Row w g0 (tpC m s) 132):
  Calls prog 61 #[.pointer (some ⟨g0,0,none⟩)] w fun e w'=>e= .returned (.bool m)/\Below w.heap.size w w':=by
 go_enter func61,ntmps61
 have sb:=Z9 w;iterate 2 go_step
 refine rp ?_;refine p_v (.bool false) (fun _=>rfl) (Za ?_);simp only[pv];iterate 3 go_step
 refine rp ?_;refine p_m ?_;simp only[pv];refine p_v _ (YE _ _ _ _ rfl (some ⟨g0,0,none⟩) rfl rfl D8) ?_;refine p_m ?_;refine p_m ?_;simp only[pv];refine p_v (.pointer (some ⟨g0,0,none⟩)) (Zl _ rfl g0 0 rfl) ?_;simp only[pv];refine p_v _ (Zb 132 _ 0 rfl g0 0 rfl _ underlying132 _ rfl 0 sizeOf4) ?_;simp only[pv];refine p_d 0 r0.r (.bool m) rfl isAgg4 ?_;refine p_k true (.bool m) ?_;refine p_a (Za ?_);simp only[pv];go_wp2;go_ret;exact⟨rfl,sb⟩
theorem LF (s:List UInt8)(w:World)(h:s.length<=65536):
  Calls prog 33 #[.string ⟨(s).toArray⟩] w fun e w'=> ∃g,e= .returned (.tuple #[.pointer (some ⟨g,0,none⟩),.int .i64 0])/\w.heap.size<=g/\Row w' g (tpC true s) 132/\Below w.heap.size w w':=by
 go_enter func33,ntmps33
 have sb:=Z9 w;iterate 2 go_step
 refine rp ?_;refine p_v (.pointer none) (fun _=>rfl) ?_;refine p_v (.int .i64 0) (fun _=>rfl) (Za ?_);simp only[pv];iterate 4 go_step
 refine rp ?_;refine p_m ?_;simp only[pv];refine p_v _ (YA _ _ rfl s rfl underlying9) ?_;simp only[pv];refine p_v _ (Qe s.length 65536) (Za ?_);simp only[pv];iterate 7 go_step
 refine rp ?_;refine p_m ?_;simp only[pv];refine p_v _ (Zm _ [_,_] rfl _ rfl _ (Iz s)) ?_;simp only[pv];refine ZD (by rfl) 132 _ rfl (_) rfl ?_;intro g9 z3002 n0 r9 k;simp only[pv];have b9:=Nat.le_trans sb.size n0;clear n0;replace sb:=kk sb k;clear k;refine p_a ?_;refine p_v (.int .i64 0) (fun _=>rfl) (Za ?_);simp only[pv];go_wp2;go_ret2;exact⟨g9,rfl,b9,r9,sb⟩
theorem QD (g0:Nat)(s:List UInt8)(n:Int)(w:World)(hn: ¬n<0)(hm:(s.length:Int)<n)(r0:Row w g0 (tpC true s) 132):
  Calls prog 248 #[.pointer (some ⟨g0,0,none⟩),.int .i64 n] w fun e w'=>e= .returned (.tuple #[.string ⟨([]:List UInt8).toArray⟩,.int .i64 5])/\Below w.heap.size w w':=by
 go_enter func248,ntmps248
 have sb:=Z9 w;iterate 2 go_step
 refine rp ?_;refine YI (by rfl) (.inr rfl) rfl ?_;refine p_v (.int .i64 0) (fun _=>rfl) (Za ?_);simp only[pv];iterate 4 go_step
 refine rp ?_;refine p_m ?_;simp only[pv];refine p_c 61 func61 #[.pointer (some ⟨g0,0,none⟩)] (Vx g0 true s _ r0) ?_;intro z1001 k;simp only[pv];replace r0:=k.ro r0;replace sb:=kk sb k;clear k;refine p_v _ (Zp _ _ rfl true rfl) ?_;refine p_m ?_;refine p_m ?_;simp only[pv];refine p_v _ (YV _ _ _ _ rfl n 0 rfl rfl false (decide_eq_false hn)) ?_;refine p_k false (.bool false) (Za ?_);simp only[pv];iterate 8 go_step
 refine rp ?_;refine p_m ?_;refine p_m ?_;simp only[pv];refine p_v (.pointer (some ⟨g0,0,none⟩)) (Zl _ rfl g0 0 rfl) ?_;simp only[pv];refine p_v _ (Zb 132 _ 1 rfl g0 0 rfl _ underlying132 _ rfl 0 sizeOf9) ?_;simp only[pv];refine p_d 1 r0.r (.string ⟨s.toArray⟩) rfl isAgg9 ?_;simp only[pv];refine p_v _ (YA _ _ rfl s rfl underlying9) ?_;simp only[pv];refine p_v _ (Z4 _ _ _ _ rfl n s.length rfl rfl true (decide_eq_true hm)) (Za ?_);simp only[pv];iterate 4 go_step
 refine rp ?_;refine YI (by rfl) (.inr rfl) rfl ?_;refine p_v (.int .i64 5) (fun _=>rfl) (Za ?_);simp only[pv];go_wp2;go_ret2;exact⟨rfl,sb⟩
theorem LG (g0:Nat)(s:List UInt8)(n:Nat)(w:World)(hm:n<=s.length)(r0:Row w g0 (tpC true s) 132):
  Calls prog 248 #[.pointer (some ⟨g0,0,none⟩),.int .i64 n] w fun e w'=>e= .returned (.tuple #[.string ⟨(s.take n).toArray⟩,.int .i64 0])/\Row w' g0 (tpC true (s.drop n)) 132/\Kept [g0] w w':=by
 go_enter func248,ntmps248
 have sb:=Z9 w;iterate 2 go_step
 refine rp ?_;refine YI (by rfl) (.inr rfl) rfl ?_;refine p_v (.int .i64 0) (fun _=>rfl) (Za ?_);simp only[pv];iterate 4 go_step
 refine rp ?_;refine p_m ?_;simp only[pv];refine p_c 61 func61 #[.pointer (some ⟨g0,0,none⟩)] (Vx g0 true s _ r0) ?_;intro z1001 k;simp only[pv];replace r0:=k.ro r0;replace sb:=kk sb k;clear k;refine p_v _ (Zp _ _ rfl true rfl) ?_;refine p_m ?_;refine p_m ?_;simp only[pv];refine p_v _ (Xy (n:Int) 0) ?_;refine p_k false (.bool false) (Za ?_);simp only[pv];iterate 8 go_step
 refine rp ?_;refine p_m ?_;refine p_m ?_;simp only[pv];refine p_v (.pointer (some ⟨g0,0,none⟩)) (Zl _ rfl g0 0 rfl) ?_;simp only[pv];refine p_v _ (Zb 132 _ 1 rfl g0 0 rfl _ underlying132 _ rfl 0 sizeOf9) ?_;simp only[pv];refine p_d 1 r0.r (.string ⟨s.toArray⟩) rfl isAgg9 ?_;simp only[pv];refine p_v _ (YA _ _ rfl s rfl underlying9) ?_;simp only[pv];refine p_v _ (Qe n s.length) (Za ?_);simp only[pv];iterate 7 go_step
 refine rp ?_;refine p_m ?_;simp only[pv];refine p_v (.pointer (some ⟨g0,0,none⟩)) (Zl _ rfl g0 0 rfl) ?_;simp only[pv];refine p_v _ (Zb 132 _ 1 rfl g0 0 rfl _ underlying132 _ rfl 0 sizeOf9) ?_;simp only[pv];refine p_d 1 r0.r (.string ⟨s.toArray⟩) rfl isAgg9 ?_;refine p_m ?_;simp only[pv];refine p_v _ (DA _ _ _ underlying9 rfl s n rfl rfl hm) ?_;refine p_a (Za ?_);simp only[pv];have sk:=Kept.ofBelow sb;replace sk:=Kept.trans (Kept.refl [g0] w) sk (by simp);clear sb;iterate 3 go_step
 refine rp ?_;refine p_m ?_;refine p_m ?_;simp only[pv];refine p_v (.pointer (some ⟨g0,0,none⟩)) (Zl _ rfl g0 0 rfl) ?_;simp only[pv];refine p_v _ (Zb 132 _ 1 rfl g0 0 rfl _ underlying132 _ rfl 0 sizeOf9) ?_;simp only[pv];refine p_d 1 r0.r (.string ⟨s.toArray⟩) rfl isAgg9 ?_;refine p_m ?_;simp only[pv];refine p_v _ (Hn _ _ _ underlying9 rfl s n rfl rfl hm) ?_;simp only[pv];refine p_v (.pointer (some ⟨g0,0,none⟩)) (Zl _ rfl g0 0 rfl) ?_;simp only[pv];refine p_v _ (Zb 132 _ 1 rfl g0 0 rfl _ underlying132 _ rfl 0 sizeOf9) ?_;simp only[pv];refine Yj (by rfl) 9 _ _ rfl _ (1) rfl r0 (.string ⟨(s.drop n).toArray⟩) rfl rfl rfl Xx (by exact(by decide:1<2)) (tpC true (s.drop n)) (D7 _ _ _) ?_;clear r0;intro z6009 r0 k;simp only[Act.put];replace sk:=sk.trans k (by simp<;>omega);clear k;refine Za ?_;iterate 3 go_step
 refine rp ?_;refine p_m ?_;refine p_a ?_;refine p_v (.int .i64 0) (fun _=>rfl) (Za ?_);simp only[pv];go_wp2;go_ret2;exact⟨rfl,r0,sk⟩
theorem Ry (l:List UInt8)(w:World):
  Calls prog 191 #[.string ⟨(l).toArray⟩,.int .u8 0] w fun e w'=>e= .returned (.string ⟨(Xb l).toArray⟩)/\Below w.heap.size w w':=by
 go_enter func191,ntmps191
 have sb:=Z9 w;iterate 2 go_step
 refine rp ?_;refine YI (by rfl) (.inr rfl) rfl ?_;simp only[pv];refine Za ?_
 go_wp2_with fail
 go_loopg [0] l.length (fun g s0 wr=> ∃r:List UInt8,r.length=g/\s0= .string ⟨(r).toArray⟩/\Xb r=Xb l/\Below w.heap.size w wr)
 case atStart=>exact⟨l,rfl,rfl,rfl,sb⟩
 case round=>
  clear sb;obtain⟨r,hr,rfl,ht,sb⟩:=hrel
  cases r with
  |nil=>
   have HT:Hid (Xb []=Xb l):=ht;clear ht hr;iterate 2 go_step
   refine rp ?_;refine p_m ?_;simp only[pv];refine p_v _ (YA _ _ rfl [] rfl underlying9) ?_;simp only[pv];refine p_v _ (Z4 _ _ _ _ rfl (0:Nat) 0 rfl rfl false rfl) ?_;refine p_m ?_;refine p_s ?_;refine p_s ?_;refine p_s ?_;simp only[pv];refine p_s ?_;refine p_k false (.bool false) (Za ?_);simp only[pv];iterate 7 go_step
   refine rp ?_;refine p_m ?_;refine p_a (Za ?_);simp only[pv];go_wp2;go_ret;exact⟨by rw[<-HT.out];rfl,sb⟩
  |cons b r=>
   have hlen:(0:Int)<(((b::r).length:Nat):Int):=by rw[List.length_cons];omega
   by_cases hb:b=0
   ·rw[LC hb]at ht;have HT:Hid (Xb r=Xb l):=ht;clear ht
    have hz:decide ((yb (b::r) 0:Int)=0)=true:=by subst hb;rfl
    iterate 2 go_step
    refine rp ?_;refine p_m ?_;simp only[pv];refine p_v _ (YA _ _ rfl (b::r) rfl underlying9) ?_;simp only[pv];refine p_v _ (Z4 _ _ _ _ rfl (b::r).length 0 rfl rfl true (decide_eq_true hlen)) ?_;refine p_m ?_;refine p_m ?_;simp only[pv];refine p_v _ (TE _ _ _ rfl underlying9 (b::r) rfl .i64 0 rfl (by simp)) ?_;refine p_m ?_;simp only[pv];refine p_v _ (Zq .u8 _ _ _ _ rfl (yb (b::r) 0:Nat) 0 rfl rfl true hz) ?_;refine p_k true (.bool true) (Za ?_);simp only[pv];clear hz hlen;iterate 7 go_step
    refine rp ?_;refine p_m ?_;simp only[pv];refine p_v (.string ⟨(r).toArray⟩) (fun w=>Hn _ _ _ underlying9 rfl (b::r) 1 rfl rfl (by simp) w) ?_;simp only[pv];refine p_a ?_;simp only[Act.put,List.setIfInBounds_toArray,List.set_cons_zero];refine Za ?_;go_wp2
    go_roundg r.length
    case measure=>simp at hr;omega
    case rel=>exact⟨r,rfl,rfl,HT.out,sb⟩
   ·rw[O7 hb]at ht;have HT:Hid (b::r=Xb l):=ht
    have hz:decide ((yb (b::r) 0:Int)=0)=false:=by
     refine decide_eq_false fun e=>hb ?_
     have:b.toNat=0:=by
      unfold yb at e
      simpa using e
     exact UInt8.toNat_inj.1 this
    clear ht;iterate 2 go_step
    refine rp ?_;refine p_m ?_;simp only[pv];refine p_v _ (YA _ _ rfl (b::r) rfl underlying9) ?_;simp only[pv];refine p_v _ (Z4 _ _ _ _ rfl (b::r).length 0 rfl rfl true (decide_eq_true hlen)) ?_;refine p_m ?_;refine p_m ?_;simp only[pv];refine p_v _ (TE _ _ _ rfl underlying9 (b::r) rfl .i64 0 rfl (by simp)) ?_;refine p_m ?_;simp only[pv];refine p_v _ (Zq .u8 _ _ _ _ rfl (yb (b::r) 0:Nat) 0 rfl rfl false hz) ?_;refine p_k true (.bool false) (Za ?_);simp only[pv];clear hz hlen;iterate 7 go_step
    refine rp ?_;refine p_m ?_;refine p_a (Za ?_);simp only[pv];go_wp2;go_ret;exact⟨by rw[<-HT.out];rfl,sb⟩
theorem VR (l:List UInt8)(w:World):
  Calls prog 141 #[.string ⟨(l).toArray⟩,.string {data:=#[0]}] w fun e w'=>e= .returned (.string ⟨(Xb l).toArray⟩)/\Below w.heap.size w w':=by
 go_enter func141,ntmps141
 have sb:=Z9 w;iterate 2 go_step
 refine rp ?_;refine YI (by rfl) (.inr rfl) rfl ?_;simp only[pv];refine Za ?_
 cases l with
 |nil=>
  iterate 4 go_step
  refine rp ?_;refine p_m ?_;simp only[pv];refine p_v _ (X4 _ _ _ _ rfl [] [] rfl rfl true rfl) ?_;refine p_m ?_;refine p_s ?_;refine p_s ?_;refine p_k true (.bool true) (Za ?_);simp only[pv];iterate 4 go_step
  refine rp ?_;refine p_m ?_;refine p_a (Za ?_);simp only[pv];go_wp2;go_ret;exact⟨rfl,sb⟩
 |cons b r=>
  iterate 4 go_step
  refine rp ?_;refine p_m ?_;simp only[pv];refine p_v _ (X4 _ _ _ _ rfl (b::r) [] rfl rfl false (decide_eq_false (by simp))) ?_;refine p_m ?_;refine p_m ?_;simp only[pv];refine p_v _ (X4 _ _ _ _ rfl [0] [] rfl rfl false (decide_eq_false (by simp))) ?_;refine p_k false (.bool false) (Za ?_);simp only[pv];iterate 8 go_step
  refine rp ?_;refine p_m ?_;simp only[pv];refine p_v _ (YA _ _ rfl [0] rfl underlying9) ?_;simp only[pv];refine p_v _ (Zq .i64 _ _ _ _ rfl (1:Nat) 1 rfl rfl true rfl) ?_;refine p_m ?_;refine p_m ?_;simp only[pv];refine p_v _ (TE _ _ _ rfl underlying9 [0] rfl .i64 0 rfl (by simp)) ?_;simp only[pv];refine p_v _ (D9 _ _ _ _ rfl (yb [0] 0:Nat) 128 rfl rfl true rfl) ?_;refine p_k true (.bool true) (Za ?_);simp only[pv];iterate 4 go_step
  refine rp ?_;refine p_m ?_;refine p_m ?_;simp only[pv];refine p_v _ (TE _ _ _ rfl underlying9 [0] rfl .i64 0 rfl (by simp)) ?_;simp only[pv];refine p_c 191 func191 #[.string ⟨(b::r).toArray⟩,.int .u8 (0:Nat)] (Ry (b::r) _) ?_;intro z4003 k;simp only[pv];replace sb:=kk sb k;clear k;refine p_a (Za ?_);simp only[pv];go_wp2;go_ret;exact⟨rfl,sb⟩
theorem UL (l:List UInt8)(h:l.length<=32):OU ⟨(Xb l).toArray⟩=WR l/\OV ⟨(Xb l).toArray⟩=0:=by
 have hb:Ia ⟨(Xb l).toArray⟩=false:=by
  unfold Ia;have h1:=Rx l;have h2:=Tm l;rw[MW];rw[decide_eq_false (by omega),Bool.false_or,Bool.and_eq_false_iff];right
  simpa using h2
 unfold OU OV;rw[if_neg (by rw[hb];decide),if_neg (by rw[hb];decide)];exact⟨Tl l,rfl⟩
theorem At (b:Nat)(h:b<=256):IntKind.i64.wrap (((b+8:Nat):Int)-1)=((b+7:Nat):Int):=by rw[IntKind.wrap_i64];omega
theorem BO (b:Nat)(h:b<=256):IntKind.i64.wrap (((b+7:Nat):Int).tdiv 8)=(((b+7)/8:Nat):Int):=by
 rw[show(8:Int)=((8:Nat):Int)from rfl,<-Int.ofNat_tdiv,IntKind.wrap_i64];omega
theorem AT (b:Nat)(h:b<=256):IntKind.i64.wrap ((256:Int)-(b:Int))=((256-b:Nat):Int):=by rw[IntKind.wrap_i64];omega
theorem Rz (v:Option Addr)(P Q G:Nat)(r f:Option Addr)(B:Bool)(w:World)(hB:(!decide (Q%2^256=0%2^256))=B)(h:UT w v P Q G r f):
  Calls prog 196 #[.pointer v] w fun e w'=>e= .returned (.bool B)/\Below w.heap.size w w':=by
 have hq:=fun w' (hb:Below w.heap.size w w')=>V1 v P Q G r f w' (h.below hb)
 clear h
 go_enter func196,ntmps196
 have sb:=Z9 w;iterate 2 go_step
 refine rp ?_;refine p_v (.bool false) (fun _=>rfl) (Za ?_);simp only[pv];iterate 3 go_step
 refine rp ?_;refine p_m ?_;simp only[pv];refine p_c 222 func222 #[.pointer v] (hq _ sb) ?_;intro z1001 k;simp only[pv];replace sb:=kk sb k;clear k;refine p_v _ (ZS _ rfl _ ZO) ?_;simp only[pv];refine p_v (.bool B) (fun w'=>(Yf _ _ _ rfl Q 0 rfl rfl w').trans (by rw[hB])) ?_;refine p_a (Za ?_);simp only[pv];go_wp2;go_ret;exact⟨rfl,sb⟩
theorem UM (v:Option Addr)(P Q G:Nat)(r f:Option Addr)(w:World)(h0:0<Q)(h1:Q<2^256)(h:UT w v P Q G r f):
  Calls prog 196 #[.pointer v] w (Rt (.bool true) w):=
 Rz v P Q G r f true w (by rw[Nat.mod_eq_of_lt h1,Nat.zero_mod,decide_eq_false (by omega)];rfl) h
theorem QE (g0 b:Nat)(s:List UInt8)(w:World)(hb:b<=256)(hf:s.length<(b+7)/8)(r0:Row w g0 (tpC true s) 132):
  Calls prog 223 #[.pointer (some ⟨g0,0,none⟩),.int .i64 b] w fun e w'=>e= .returned (.tuple #[.agg (Zc 0),.int .i64 5])/\Below w.heap.size w w':=by
 go_enter func223,ntmps223
 have sb:=Z9 w;iterate 2 go_step
 refine rp ?_;refine ZJ (by rfl) 39 rfl _ Zv ?_;intro g4 z0 n0 r4 k;simp only[pv];have d0x4:=l_l r0.lt n0;have b4:=Nat.le_trans sb.size n0;clear n0;replace r0:=k.ro r0;replace sb:=kk sb k;clear k;refine p_v (.int .i64 0) (fun _=>rfl) (Za ?_);simp only[pv];iterate 3 go_step
 refine rp ?_;refine p_m ?_;refine p_m ?_;simp only[pv];refine p_v _ (x_a b 8) ?_;simp only[pv];refine p_v (.int .i64 ((b+7:Nat):Int)) (Pt _ _ _ _ rfl ((b+8:Nat):Int) 1 _ rfl rfl (At b hb)) ?_;simp only[pv];refine p_v _ (Pu _ _ _ _ rfl ((b+7:Nat):Int) 8 _ rfl rfl (by decide) (BO b hb)) ?_;simp only[pv];refine p_c 248 func248 #[.pointer (some ⟨g0,0,none⟩),.int .i64 (((b+7)/8:Nat):Int)] (QD g0 s (((b+7)/8:Nat):Int) _ (by omega) (by omega) r0) ?_;intro z1005 k;simp only[pv];replace r0:=k.ro r0;replace r4:=k.ro r4;replace sb:=kk sb k;clear k;refine p_m ?_;refine p_e ?_;refine p_e ?_;refine p_a ?_;refine p_a (Za ?_);simp only[pv];iterate 4 go_step
 refine rp ?_;refine p_m ?_;simp only[pv];refine p_v _ (ZC .i64 _ _ _ _ rfl 5 0 rfl rfl true rfl) (Za ?_);simp only[pv];iterate 4 go_step
 refine rp ?_;refine p_v _ (ZS _ rfl _ ZO) ?_;refine p_m ?_;simp only[pv];refine p_p r4 0 ?_;clear r4;intro z3002 r4 k;simp only[Act.put];replace sb:=kk sb k;clear k;refine p_a (Za ?_);simp only[pv];go_wp2;exact Yl rfl _ rfl r4 4 _ underlying39 (by exact Ze) rfl _ rfl ⟨rfl,sb⟩
theorem RA (g0 b nb U X V:Nat)(s hd h2 tl:List UInt8)(w:World)(hb:b<=256)(hnb:IntKind.i64.wrap (((b+7:Nat):Int).tdiv 8)=(nb:Int))(r0:Row w g0 (tpC true s) 132)
  (hby: ∀w',Row w' g0 (tpC true s) 132->Calls prog 248 #[.pointer (some ⟨g0,0,none⟩),.int .i64 (nb:Nat)] w' fun e w2=>e= .returned (.tuple #[.string ⟨(hd).toArray⟩,.int .i64 0])/\Row w2 g0 (tpC true tl) 132/\Kept [g0] w' w2)
  (htl: ∀w',Calls prog 141 #[.string ⟨(hd).toArray⟩,.string {data:=#[0]}] w' (Rt (.string ⟨(h2).toArray⟩) w'))
  (htk: ∀w',Calls prog 140 #[.string ⟨(h2).toArray⟩] w' (Rt (.tuple #[.agg (Zc U),.int .i64 0]) w'))
  (hup: ∀w',Calls prog 175 #[.agg (Zc U),.int .i64 ((256-b:Nat):Int)] w' (Rt (.agg (Zc X)) w'))
  (hdn: ∀w',Calls prog 177 #[.agg (Zc X),.int .i64 ((256-b:Nat):Int)] w' (Rt (.agg (Zc V)) w')):
  Calls prog 223 #[.pointer (some ⟨g0,0,none⟩),.int .i64 b] w fun e w'=>e= .returned (.tuple #[.agg (Zc V),.int .i64 0])/\Row w' g0 (tpC true tl) 132/\Kept [g0] w w':=by
 go_enter func223,ntmps223
 have sk:=Kept.refl [g0] w;iterate 2 go_step
 refine rp ?_;refine ZJ (by rfl) 39 rfl _ Zv ?_;intro g4 z0 n0 r4 k;simp only[pv];have d0x4:=l_l r0.lt n0;have b4:=Nat.le_trans sk.size n0;clear n0;replace r0:=k.ro r0;replace sk:=sk.trans k (by simp<;>omega);clear k;refine p_v (.int .i64 0) (fun _=>rfl) (Za ?_);simp only[pv];iterate 3 go_step
 refine rp ?_;refine p_m ?_;refine p_m ?_;simp only[pv];refine p_v _ (x_a b 8) ?_;simp only[pv];refine p_v (.int .i64 ((b+7:Nat):Int)) (Pt _ _ _ _ rfl ((b+8:Nat):Int) 1 _ rfl rfl (At b hb)) ?_;simp only[pv];refine p_v _ (Pu _ _ _ _ rfl ((b+7:Nat):Int) 8 _ rfl rfl (by decide) hnb) ?_;simp only[pv];refine p_f 248 func248 #[.pointer (some ⟨g0,0,none⟩),.int .i64 (nb:Int)] (hby _ r0) ?_;clear r0;rintro _ z1005 ⟨rfl,r0,k⟩;refine⟨_,rfl,?_⟩;simp only[pv];replace r4:=k.ro r4;replace sk:=sk.trans k (by simp<;>omega);clear k;refine p_m ?_;refine p_e ?_;refine p_e ?_;refine p_a ?_;refine p_a (Za ?_);simp only[pv];iterate 4 go_step
 refine rp ?_;refine p_m ?_;simp only[pv];refine p_v _ (ZC .i64 _ _ _ _ rfl 0 0 rfl rfl false rfl) (Za ?_);simp only[pv];iterate 7 go_step
 refine rp ?_;refine p_m ?_;simp only[pv];refine p_c 141 func141 #[.string ⟨(hd).toArray⟩,.string {data:=#[0]}] (htl _) ?_;intro z4001 k;simp only[pv];replace r0:=k.ro r0;replace r4:=k.ro r4;replace sk:=sk.trans k (by simp<;>omega);clear k;refine p_c 140 func140 #[.string ⟨(h2).toArray⟩] (htk _) ?_;intro z4002 k;simp only[pv];replace r0:=k.ro r0;replace r4:=k.ro r4;replace sk:=sk.trans k (by simp<;>omega);clear k;refine p_m ?_;refine p_e ?_;refine p_e ?_;simp only[pv];refine ZJ (by rfl) 39 rfl _ Zv ?_;intro g8 z4006 n0 r8 k;simp only[pv];have d0x8:=l_l r0.lt n0;have d4x8:=l_l r4.lt n0;have b8:=Nat.le_trans sk.size n0;clear n0;replace r0:=k.ro r0;replace r4:=k.ro r4;replace sk:=sk.trans k (by simp<;>omega);clear k;refine p_p r8 U ?_;clear r8;intro z4007 r8 k;simp only[Act.put];replace r0:=k.ro r0;replace r4:=k.ro r4;replace sk:=sk.trans k (by simp<;>omega);clear k;refine p_a (Za ?_);simp only[pv];iterate 3 go_step
 refine rp ?_;refine p_m ?_;simp only[pv];refine p_v (.int .i64 ((256-b:Nat):Int)) (Pt _ _ _ _ rfl 256 (b:Int) _ rfl rfl (AT b hb)) ?_;refine p_a (Za ?_);simp only[pv];iterate 3 go_step
 refine rp ?_;refine p_l r8.r ?_;refine p_m ?_;simp only[pv];refine p_c 175 func175 #[.agg (Zc U),.int .i64 ((256-b:Nat):Int)] (hup _) ?_;intro z6002 k;simp only[pv];replace r0:=k.ro r0;replace r4:=k.ro r4;replace r8:=k.ro r8;replace sk:=sk.trans k (by simp<;>omega);clear k;refine p_m ?_;simp only[pv];refine p_c 177 func177 #[.agg (Zc X),.int .i64 ((256-b:Nat):Int)] (hdn _) ?_;intro z6004 k;simp only[pv];replace r0:=k.ro r0;replace r4:=k.ro r4;replace r8:=k.ro r8;replace sk:=sk.trans k (by simp<;>omega);clear k;refine p_p r4 V ?_;clear r4;intro z6005 r4 k;simp only[Act.put];replace r0:=k.ro r0;replace r8:=k.ro r8;replace sk:=sk.trans k (by simp<;>omega);clear k;refine p_v (.int .i64 0) (fun _=>rfl) (Za ?_);simp only[pv];go_wp2;exact Yl rfl _ rfl r4 4 _ underlying39 (by exact Ze) rfl _ rfl ⟨rfl,r0,sk⟩
theorem O9 (g0 b:Nat)(s:List UInt8)(w:World)(hb:b<=256)(hf:(b+7)/8<=s.length)(r0:Row w g0 (tpC true s) 132):
  Calls prog 223 #[.pointer (some ⟨g0,0,none⟩),.int .i64 b] w fun e w'=>e= .returned (.tuple #[.agg (Zc (WR (s.take ((b+7)/8))%2^b)),.int .i64 0])/\Row w' g0 (tpC true (s.drop ((b+7)/8))) 132/\Kept [g0] w w':=by
 have hnb:=BO b hb;generalize (b+7)/8=nb at*
 have hl32:(s.take nb).length<=32:=by
  have h1:(nb:Int)<=32:=by
   rw[<-hnb,BO b hb];omega
  rw[List.length_take];omega
 have htl:=fun w'=>VR (s.take nb) w'
 have htk:=fun w'=>Rs ⟨(Xb (s.take nb)).toArray⟩ w'
 obtain⟨e1,e2⟩:=UL (s.take nb) hl32;rw[e1,e2]at htk;have hup:=fun w'=>NO (WR (s.take nb)) ((256-b:Nat):Int) w'
 rw[Int.toNat_natCast,<-Yu (WR (s.take nb)*2^(256-b))]at hup;have hdn:=fun w'=>Ue (WR (s.take nb)*2^(256-b)%2^256) ((256-b:Nat):Int) w' (Nat.mod_lt _ (Nat.two_pow_pos _))
 rw[Int.toNat_natCast,D6 _ _ hb]at hdn;exact RA g0 b nb (WR (s.take nb)) (WR (s.take nb)*2^(256-b)%2^256) (WR (s.take nb)%2^b) s (s.take nb) (Xb (s.take nb)) (s.drop nb) w hb hnb r0 (fun w' h=>LG g0 s nb w' hf h) htl htk hup hdn
end Go.Proofs.YtcdahmommonnfaaGreatDoor
