import Derived.Shelf.Strings.Repeat
import Derived.Test.YtcdahmommonnfaaGreatDoorJ13
set_option maxRecDepth 100000
set_option maxHeartbeats 8000000
namespace Go.Proofs.YtcdahmommonnfaaGreatDoor
set_option linter.all false
def pN (n z:Nat):Nat:=(n+z-1)/z
theorem Cg {n z:Nat}(hz:0<z):n<=pN n z*z:=by
 unfold pN;have h:=Nat.div_add_mod (n+z-1) z;have h2:=Nat.mod_lt (n+z-1) hz;rw[Nat.mul_comm]at h;omega
theorem Ch {n z:Nat}(hz:0<z):pN n z*z<n+z:=by
 unfold pN;have h:=Nat.div_mul_le_self (n+z-1) z;omega
theorem Ci {n z:Nat}(hz:0<z):pN n z<=n:=by
 have h:=Ch (n:=n) hz;by_cases hn:n=0
 ·subst hn;have:pN 0 z*z<1*z:=by omega
  have:=Nat.lt_of_mul_lt_mul_right this;omega
 ·unfold pN;refine Nat.le_of_lt_succ ((Nat.div_lt_iff_lt_mul hz).2 ?_);have e:(n-1)*1<=(n-1)*z:=Nat.mul_le_mul_left _ hz
  have e2:(n+1)*z=(n-1)*z+z+z:=by
   obtain⟨m,rfl⟩: ∃m,n=m+1:=⟨n-1,by omega⟩
   rw[Nat.add_sub_cancel,Nat.add_mul,Nat.add_mul];omega
  show n+z-1<(n+1)*z
  omega
def ckL (v:List UInt8)(t:Bool):List UInt8:=bif t then UInt8.ofNat (v.length+1)::v else[0]
theorem Eh {v:List UInt8}(t:Bool)(h:v.length<=24):(ckL v t).length<=25:=by cases t<;>simp[ckL];exact h
def Ei (s:List UInt8)(z:Nat):List UInt8:=s++List.replicate (pN s.length z*z-s.length) 0
theorem QJ {s:List UInt8}{z:Nat}(hz:0<z):(Ei s z).length=pN s.length z*z:=by
 have:=Cg (n:=s.length) hz;simp[Ei];omega
def prt (s:List UInt8)(z k:Nat):List UInt8:=((Ei s z).drop (k*z)).take z
def ckF (s:List UInt8)(z k:Nat):Nat:=WR (prt s z k)
theorem HO (s:List UInt8)(z k:Nat):(prt s z k).length<=z:=by simp[prt];omega
theorem Cj (s:List UInt8)(z k:Nat):ckF s z k<2^(8*z):=
 Nat.lt_of_lt_of_le (Lf _) (Nat.pow_le_pow_right (by decide) (by have:=HO s z k;omega))
def flz (z A:Nat):List UInt8:=List.replicate (z-need A) 0++Wd A (need A)
def jn (z:Nat)(f:Nat->Nat):Nat->List UInt8
 |0=>[]
 |n+1=>jn z f n++flz z (f n)
def tdT (s:List UInt8):Bool:= !decide ((s.getD 0 0).toNat=0)
def tdV (s:List UInt8):List UInt8:=bif tdT s then(s.take (min (s.getD 0 0).toNat s.length)).drop 1 else[]
def AU (z n:Nat)(f:Nat->Nat)(v:List UInt8)(t:Bool):Prop:=v.length<=24/\n=pN (ckL v t).length z/\ ∀k,k<n->f k=ckF (ckL v t) z k
open Classical in
noncomputable def BT (z n:Nat)(f:Nat->Nat):Option (List UInt8×Bool):=if AU z n f (tdV (jn z f n)) (tdT (jn z f n))then some (tdV (jn z f n),tdT (jn z f n))else none
noncomputable def tkV (z n:Nat)(f:Nat->Nat):List UInt8:=match BT z n f with|none=>[]|some y=>y.1
noncomputable def tkT (z n:Nat)(f:Nat->Nat):Bool:=match BT z n f with|none=>false|some y=>y.2
noncomputable def tkEx (z n:Nat)(f:Nat->Nat):Int:=match BT z n f with|none=>4|some _=>0
def ckN (z:Nat)(n:Int):Int:=if 0<=n/\n<=24 then(pN (n.toNat+1) z:Nat)else 0
end Go.Proofs.YtcdahmommonnfaaGreatDoor
namespace Go.Proofs.YtcdahmommonnfaaGreatDoor
open Go.Shelf Go.RowKit Go.Proofs.Tryz
def UP:Go.Shelf.Ren:=⟨fun|105=>139|212=>185|99=>186|165=>187|166=>188|170=>189|169=>190|263=>212|264=>208|206=>213|240=>214|241=>215|276=>242|277=>243|n=>n,fun|9=>9|3=>3|4=>4|20=>20|0=>0|46=>45|109=>241|5=>5|72=>246|76=>250|51=>267|146=>268|53=>37|148=>231|70=>244|37=>122|75=>249|127=>206|164=>291|80=>252|n=>n,fun|n=>n⟩
theorem Ej:Go.Proofs.Lays.n105 prog UP:={
 mixed:=by kernel_rfl
 f99:=func186.trans (congrArg some (by kernel_rfl))
 f105:=func139.trans (congrArg some (by kernel_rfl))
 f165:=func187.trans (congrArg some (by kernel_rfl))
 f166:=func188.trans (congrArg some (by kernel_rfl))
 f169:=func190.trans (congrArg some (by kernel_rfl))
 f170:=func189.trans (congrArg some (by kernel_rfl))
 f206:=func213.trans (congrArg some (by kernel_rfl))
 f212:=func185.trans (congrArg some (by kernel_rfl))
 f240:=func214.trans (congrArg some (by kernel_rfl))
 f241:=func215.trans (congrArg some (by kernel_rfl))
 f263:=func212.trans (congrArg some (by kernel_rfl))
 f264:=func208.trans (congrArg some (by kernel_rfl))
 f276:=func242.trans (congrArg some (by kernel_rfl))
 f277:=func243.trans (congrArg some (by kernel_rfl))
 t0:=underlying0
 a0:=isAgg0
 z0:=sizeOf0
 v0:=zeroValue0
 t3:=underlying3
 a3:=isAgg3
 z3:=sizeOf3
 v3:=zeroValue3
 t4:=underlying4
 a4:=isAgg4
 z4:=sizeOf4
 v4:=zeroValue4
 t5:=underlying5
 a5:=isAgg5
 z5:=sizeOf5
 v5:=zeroValue5
 t9:=underlying9
 a9:=isAgg9
 z9:=sizeOf9
 v9:=zeroValue9
 t20:=underlying20
 a20:=isAgg20
 z20:=sizeOf20
 v20:=zeroValue20
 t37:=underlying122
 a37:=isAgg122
 z37:=sizeOf122
 v37:=zeroValue122
 t46:=underlying45
 a46:=isAgg45
 z46:=sizeOf45
 v46:=zeroValue45
 t51:=underlying267
 a51:=isAgg267
 z51:=sizeOf267
 v51:=zeroValue267
 t53:=underlying37
 a53:=isAgg37
 z53:=sizeOf37
 v53:=zeroValue37
 t70:=underlying244
 a70:=isAgg244
 z70:=sizeOf244
 v70:=zeroValue244
 t72:=underlying246
 a72:=isAgg246
 z72:=sizeOf246
 v72:=zeroValue246
 t75:=underlying249
 a75:=isAgg249
 z75:=sizeOf249
 v75:=zeroValue249
 t76:=underlying250
 a76:=isAgg250
 z76:=sizeOf250
 v76:=zeroValue250
 t109:=underlying241
 a109:=isAgg241
 z109:=sizeOf241
 v109:=zeroValue241
 t127:=underlying206
 a127:=isAgg206
 z127:=sizeOf206
 v127:=zeroValue206
 t146:=underlying268
 a146:=isAgg268
 z146:=sizeOf268
 v146:=zeroValue268
 t148:=underlying231
 a148:=isAgg231
 z148:=sizeOf231
 v148:=zeroValue231
 t164:=underlying291
 a164:=isAgg291
 z164:=sizeOf291
 v164:=zeroValue291}
theorem LZ:Builder.Extra prog UP:={
 sizeBuilder:=by kernel_rfl
 liesBuilder:=by kernel_rfl
 t5:=underlying5
 a5:=isAgg5
 z5:=sizeOf5
 v5:=zeroValue5
 infoByte:=by kernel_rfl
 cellsByte:=by kernel_rfl
 sizeByte:=by kernel_rfl
 neB5:=by decide}
theorem IN (k:Nat):Lib.repeatL [0] k=List.replicate k 0:=by
 induction k with
 |zero=>rfl
 |succ k ih=>rw[Lib.repeatL,ih];rfl
theorem Nb (k:Nat)(w:World)(hk:k<=100000):
  Calls prog 139 #[.string {data:=#[0]},.int .i64 k] w (Rt (.string ⟨(List.replicate k 0).toArray⟩) w):=by
 have h:=Any.strings_Repeat Ej LZ {data:=#[0]} k w (by omega) (by show 1*k<=_;omega);rw[show(({data:=#[0]}:ByteArray).data.toList)=[0]from rfl,IN]at h;exact h
open Go.RowKit
theorem Ck {P:Program}{o:Oper}{ρ:Operand->Value}(t:TypeId)(x y:Operand)(u:TypeId)(ho:o.op= .binOp .add t x y u)(a b:List UInt8)(hx:ρ x= .string ⟨a.toArray⟩)(hy:ρ y= .string ⟨b.toArray⟩)(h:a.length+b.length<=9223372036854775807)(w:World):
  (execOp ρ o).run P w= .ok (.value (.string ⟨(a++b).toArray⟩)) w:=by
 have hr:=run_string_add_sum (P:=P) w ⟨a.toArray⟩ ⟨b.toArray⟩ (by simpa[ByteArray.size]using h);rw[ByteArray.mk_append_mk]at hr;unfold execOp;simp only[ho,hx,hy];simp[eqGuard,binOp,hr]
def RL (w:World)(v:Option Addr)(z:Int):Prop:= ∀w',Below w.heap.size w w'->Calls prog 137 #[.pointer v] w' (Rt (.int .i64 z) w')
theorem RL.below {w w':World}{v:Option Addr}{z:Int}(h:RL w v z)(hb:Below w.heap.size w w'):RL w' v z:=fun w2 h2=>h w2 (Zk hb (Nat.le_refl _) h2)
theorem UT.sz {w:World}{v:Option Addr}{P Q G:Nat}{r f:Option Addr}(hQ:Q<2^256)(h:UT w v P Q G r f):RL w v (S3 Q):=fun w' hb=>Ql v P Q G r f w' hQ (h.below hb)
theorem P4:(prog.info? 5).map (fun i=>(i.zero,i.size))=some (some (.int .u8 0),1):=by kernel_rfl
theorem IP: ∃i,prog.info? 5=some i/\i.zero=some (Value.int .u8 0)/\i.size=1:=by
 cases hi:prog.info? 5 with
 |none=>have:=P4;rw[hi]at this;cases this
 |some i=>
  have h:=P4;rw[hi]at h;simp only[Option.map_some,Option.some.injEq,Prod.mk.injEq]at h;exact⟨i,rfl,h.1,h.2⟩
theorem Cl (a:Int)(k:Nat)(hk:k=1):Instr.fill (fun i=>some (i*k,k)) ((Array.range (1*k)).map ((Value.int .u8 0).cells[· %(Value.int .u8 0).cells.size]!)) [(0,.int .u8 a)]=some #[.int .u8 a]:=by
 subst hk
 kernel_rfl
theorem Ek (x:Nat)(h:x<256): ∀j,j<[UInt8.ofNat x].length->(#[.int .u8 (x:Int)]:Array Value)[0+j]?=some (.int .u8 (yb [UInt8.ofNat x] j:Nat)):=by
 intro j hj;obtain rfl:j=0:=by simpa using hj
 have:yb [UInt8.ofNat x] 0=x:=by
  unfold yb;simp[UInt8.toNat_ofNat'];omega
 rw[this];rfl
theorem AV (x:Nat)(h:x<256):IntKind.u8.wrap (x:Int)=(x:Int):=by rw[IntKind.wrap_u8'];omega
theorem Nc {n z:Nat}(hz:0<z)(hb:n<100000):IntKind.i64.wrap (((n+z-1:Nat):Int).tdiv (z:Int))=((pN n z:Nat):Int):=by
 have e:((n+z-1:Nat):Int).tdiv (z:Int)=((pN n z:Nat):Int):=by rw[<-Int.ofNat_tdiv];rfl
 have:=Ci (n:=n) hz;rw[e,IntKind.wrap_i64];omega
theorem QK (v:Option Addr)(z:Int)(B:Bool)(w:World)(hB:decide (0<z)=B)(h:RL w v z):
  Calls prog 88 #[.pointer v] w fun e w'=>e= .returned (.bool B)/\Below w.heap.size w w':=by
 go_enter func88,ntmps88
 have sb:=Z9 w;iterate 2 go_step
 refine rp ?_;refine p_v (.bool false) (fun _=>rfl) (Za ?_);simp only[pv];iterate 3 go_step
 refine rp ?_;refine p_m ?_;simp only[pv];refine p_c 137 func137 #[.pointer v] (h _ sb) ?_;intro z1001 k;simp only[pv];replace sb:=kk sb k;clear k;refine p_v _ (Z4 _ _ _ _ rfl z 0 rfl rfl B hB) ?_;refine p_a (Za ?_);simp only[pv];go_wp2;go_ret;exact⟨rfl,sb⟩
theorem L0 (v:Option Addr)(n z:Nat)(w:World)(hz:0<z)(hb:n+z<100000)(h:RL w v z):
  Calls prog 138 #[.pointer v,.int .i64 n] w fun e w'=>e= .returned (.int .i64 (pN n z:Nat))/\Below w.heap.size w w':=by
 have hw:=Nc (n:=n) hz (by omega);generalize pN n z=X at*
 go_enter func138,ntmps138
 have sb:=Z9 w;iterate 2 go_step
 refine rp ?_;refine p_v (.int .i64 0) (fun _=>rfl) (Za ?_);simp only[pv];iterate 3 go_step
 refine rp ?_;refine p_m ?_;refine p_m ?_;simp only[pv];refine p_c 137 func137 #[.pointer v] (h _ sb) ?_;intro z1002 k;simp only[pv];replace sb:=kk sb k;clear k;refine p_v _ (x_a n z) ?_;simp only[pv];refine p_v _ (ZT _ _ _ _ rfl (n+z) 1 rfl rfl (by omega) (by omega)) ?_;refine p_m ?_;simp only[pv];refine p_c 137 func137 #[.pointer v] (h _ sb) ?_;intro z1006 k;simp only[pv];replace sb:=kk sb k;clear k;refine p_v _ (Pu _ _ _ _ rfl ((n+z-1:Nat):Int) z _ rfl rfl (by omega) hw) ?_;refine p_a (Za ?_);simp only[pv];go_wp2;go_ret;exact⟨rfl,sb⟩
theorem UQ (v:Option Addr)(z:Nat)(s:List UInt8)(w:World)(hz:0<z)(hz2:z<=32)(hs:s.length<=1000)(h:RL w v z):
  Calls prog 89 #[.pointer v,.string ⟨(s).toArray⟩] w fun e w'=> ∃g,e= .returned (.slice (some ⟨g,0,none⟩) (pN s.length z) (pN s.length z))/\w.heap.size<=g/\Row w' g (nsC (pN s.length z) (ckF s z)) 39/\Below w.heap.size w w':=by
 have hpa:=fun w' (hb:Below w.heap.size w w')=>L0 v s.length z w' hz (by omega) (h.below hb)
 have htk: ∀(l:List UInt8) w',l.length<=32->Calls prog 140 #[.string ⟨(Xb l).toArray⟩] w' fun e w2=>e= .returned (.tuple #[.agg (Zc (WR l)),.int .i64 0])/\Below w'.heap.size w' w2:=by
  intro l w' hl;have h:=Rs ⟨(Xb l).toArray⟩ w';rw[(UL l hl).1,(UL l hl).2]at h;exact h
 have h1:=Cg (n:=s.length) hz;have h2:=Ci (n:=s.length) hz;have h3:=Ch (n:=s.length) hz;have hpl:=QJ (s:=s) hz;have hpd:Ei s z=s++List.replicate (pN s.length z*z-s.length) 0:=rfl;have hprt:=fun k=>HO s z k
 have hmul:=fun k (hk:k<pN s.length z)=>Nat.mul_le_mul_right z hk
 obtain⟨ie,hie,hze,hsz,hby⟩:=YL;generalize pN s.length z=n at*;obtain⟨M,hM⟩: ∃M,n*z=M:=⟨_,rfl⟩
 rw[hM]at h1 h3 hpl hpd
 have HM:Hid (∀k,k<n->(k+1)*z<=M):=fun k hk=>by
  have:=hmul k hk;rw[hM]at this;exact this
 clear hmul
 go_enter func89,ntmps89
 have sb:=Z9 w;iterate 2 go_step
 refine rp ?_;refine p_v (.slice none 0 0) ((fun _=>rfl)) (Za ?_);simp only[pv];iterate 3 go_step
 refine rp ?_;refine p_m ?_;simp only[pv];refine p_c 137 func137 #[.pointer v] (h _ sb) ?_;intro z1001 k;simp only[pv];replace sb:=kk sb k;clear k;refine p_a (Za ?_);simp only[pv];iterate 3 go_step
 refine rp ?_;refine p_m ?_;refine p_m ?_;simp only[pv];refine p_v _ (YA _ _ rfl s rfl underlying9) ?_;simp only[pv];refine p_c 138 func138 #[.pointer v,.int .i64 (s.length:Nat)] (hpa _ sb) ?_;intro z2003 k;simp only[pv];replace sb:=kk sb k;clear k;refine Wn (by rfl) 54 39 _ _ rfl ie _ underlying54 hie hze n rfl rfl (by rw[hsz];omega) (by rw[hby];omega) (by omega) ?_;intro gM z2004 n0 rM k;simp only[pv];have bM:=Nat.le_trans sb.size n0;clear n0;replace sb:=kk sb k;clear k;refine p_a (Za ?_);simp only[pv];rw[hsz,WI]at rM;clear hpa h;iterate 3 go_step
 refine rp ?_;refine p_m ?_;refine p_m ?_;simp only[pv];refine p_v _ (n_l (some ⟨gM,0,none⟩) n n ZN) ?_;refine p_m ?_;simp only[pv];refine p_v _ (Z6 _ _ _ _ rfl n z M rfl rfl hM (by omega)) ?_;refine p_m ?_;simp only[pv];refine p_v _ (YA _ _ rfl s rfl underlying9) ?_;simp only[pv];refine p_v _ (ZT _ _ _ _ rfl M s.length rfl rfl (by omega) (by omega)) ?_;simp only[pv];refine p_c 139 func139 #[.string {data:=#[0]},.int .i64 ((M-s.length:Nat):Int)] (Nb _ _ (by omega)) ?_;intro z3008 k;simp only[pv];replace rM:=k.ro rM;replace sb:=kk sb k;clear k;refine p_v (.string ⟨(Ei s z).toArray⟩) (fun w'=>(Ck _ _ _ _ rfl s (List.replicate (M-s.length) 0) rfl rfl (by rw[List.length_replicate];omega) w').trans (by rw[<-hpd])) ?_;refine p_a (Za ?_);simp only[pv];have hMb:M<=1100:=by omega
 clear hpd h1 h3;iterate 4 go_step
 refine rp ?_;refine p_m ?_;simp only[pv];refine p_v _ (n_l (some ⟨gM,0,none⟩) n n ZN) ?_;refine p_v (.int .i64 0) (fun _=>rfl) (Za ?_);simp only[pv]
 go_wp2_with fail
 go_loopg [8,9,29] n (fun g s8 s9 s29 wr=> ∃k:Nat,k+g=n/\s29= .int .i64 k/\Row wr gM (nsC n (fun j=>if j<k then ckF s z j else 0)) 39/\Below w.heap.size w wr)
 case atStart=>exact⟨0,by omega,rfl,by rw[show(fun j=>if j<0 then ckF s z j else 0)=fun _=>0 from funext fun j=>if_neg (by omega)];exact rM,sb⟩
 case round=>
  clear rM sb;obtain⟨k,hk,rfl,rM,sb⟩:=hrel
  cases gk with
  |zero=>
   obtain rfl:k=n:=by omega
   clear hk HM htk;rw[XP k _ (ckF s z) (fun j hj=>if_pos hj)]at rM
   go_step
   refine rp ?_;refine p_v _ (Xy k k) (Za ?_);simp only[pv];iterate 8 go_step
   refine rp ?_;refine p_m ?_;refine p_a (Za ?_);simp only[pv];go_wp2;go_ret;exact⟨gM,rfl,bM,rM,sb⟩
  |succ g=>
   have hlt:k<n:=by omega
   have hkM:=HM.out k hlt;have hadd:(k+1)*z=k*z+z:=by rw[Nat.add_mul,Nat.one_mul]
   obtain⟨A,hA⟩: ∃A,k*z=A:=⟨_,rfl⟩
   rw[hadd,hA]at hkM;have hA2:(k+1)*z=A+z:=by rw[hadd,hA]
   have hpr:((Ei s z).take (A+z)).drop A=prt s z k:=by
    rw[IM];unfold prt;rw[hA]
   have htk':=fun w'=>htk (prt s z k) w' (Nat.le_trans (hprt k) hz2)
   have hput:=W8 n (fun j=>if j<k then ckF s z j else 0) (fun j=>if j<k+1 then ckF s z j else 0) k hlt (0+k*4) (by omega) (WR (prt s z k)) (fun j hj=>by
    by_cases hjk:j=k
    ·subst hjk;rw[if_pos (by omega),if_pos rfl];rfl
    ·rw[if_neg hjk];by_cases h2:j<k
     ·rw[if_pos h2,if_pos (by omega)]
     ·rw[if_neg h2,if_neg (by omega)])
   clear htk hadd
   go_step
   refine rp ?_;refine p_v _ (XK k n) (Za ?_);simp only[pv];iterate 10 go_step
   refine rp ?_;refine p_m ?_;refine p_a (Za ?_);simp only[pv];iterate 3 go_step
   refine rp ?_;refine p_m ?_;refine p_m ?_;refine p_m ?_;simp only[pv];refine p_v _ (Z6 _ _ _ _ rfl k z A rfl rfl hA (by omega)) ?_;refine p_m ?_;simp only[pv];refine p_v _ (x_a k 1) ?_;refine p_m ?_;simp only[pv];refine p_v _ (Z6 _ _ _ _ rfl (k+1) z (A+z) rfl rfl hA2 (by omega)) ?_;simp only[pv];refine p_v _ (Bv _ _ _ _ underlying9 rfl (Ei s z) A (A+z) rfl rfl rfl (by omega) (by omega) _ hpr) ?_;refine p_a (Za ?_);simp only[pv];clear hpr hA hA2;iterate 2 go_step
   refine rp ?_;refine p_m ?_;refine p_m ?_;refine p_m ?_;simp only[pv];refine p_c 141 func141 #[.string ⟨(prt s z k).toArray⟩,.string {data:=#[0]}] (VR _ _) ?_;intro z8003 k;simp only[pv];replace rM:=k.ro rM;replace sb:=kk sb k;clear k;refine p_c 140 func140 #[.string ⟨(Xb (prt s z k)).toArray⟩] (htk' _) ?_;intro z8004 k;simp only[pv];replace rM:=k.ro rM;replace sb:=kk sb k;clear k;refine p_m ?_;refine p_e ?_;refine p_e ?_;simp only[pv];refine p_x k hlt underlying54 ZU ?_;simp only[pv];refine X2 (by rfl) 39 _ _ rfl _ (0+k*4) rfl rM (Zc (WR (prt s z k))) rfl (by exact Ze) (by rw[Z7,Zt];omega) (ZA _) (nsC n (fun j=>if j<k+1 then ckF s z j else 0)) hput ?_;clear rM;intro z8009 rM k;simp only[Act.put];replace sb:=kk sb k;clear k;refine Za ?_;clear hput;iterate 2 go_step
   refine rp ?_;refine p_v _ (x_a k 1) ?_;refine p_m (Za ?_);simp only[pv];go_wp2
   go_roundg g
   case measure=>omega
   case rel=>exact⟨k+1,by omega,rfl,rM,sb⟩
theorem El (v:Option Addr)(s:List UInt8)(b:Bool)(w:World)(h:RL w v 0):
  Calls prog 46 #[.pointer v,.string ⟨(s).toArray⟩,.bool b] w fun e w'=>e= .returned (.tuple #[.slice none 0 0,.int .i64 1])/\Below w.heap.size w w':=by
 go_enter func46,ntmps46
 have sb:=Z9 w;iterate 2 go_step
 refine rp ?_;refine p_v (.slice none 0 0) ((fun _=>rfl)) ?_;refine p_v (.int .i64 0) (fun _=>rfl) (Za ?_);simp only[pv];iterate 4 go_step
 refine rp ?_;refine p_m ?_;simp only[pv];refine p_c 88 func88 #[.pointer v] (QK v 0 false _ rfl (h.below sb)) ?_;intro z1001 k;simp only[pv];replace sb:=kk sb k;clear k;refine p_v _ (Zp _ _ rfl false rfl) (Za ?_);simp only[pv];iterate 4 go_step
 refine rp ?_;refine p_v (.slice none 0 0) ((fun _=>rfl)) ?_;refine p_v (.int .i64 1) (fun _=>rfl) (Za ?_);simp only[pv];go_wp2;go_ret2;exact⟨rfl,sb⟩
theorem IQ (v:Option Addr)(z:Nat)(s:List UInt8)(w:World)(hz:0<z)(hz2:z<=32)(h:RL w v z):
  Calls prog 46 #[.pointer v,.string ⟨(s).toArray⟩,.bool false] w fun e w'=> ∃g,e= .returned (.tuple #[.slice (some ⟨g,0,none⟩) (pN (ckL s false).length z) (pN (ckL s false).length z),.int .i64 0])/\w.heap.size<=g/\Row w' g (nsC (pN (ckL s false).length z) (ckF (ckL s false) z)) 39/\Below w.heap.size w w':=by
 have hnu:=fun w' (hb:Below w.heap.size w w')=>UQ v z [0] w' hz hz2 (by decide) (h.below hb)
 go_enter func46,ntmps46
 have sb:=Z9 w;iterate 2 go_step
 refine rp ?_;refine p_v (.slice none 0 0) ((fun _=>rfl)) ?_;refine p_v (.int .i64 0) (fun _=>rfl) (Za ?_);simp only[pv];iterate 4 go_step
 refine rp ?_;refine p_m ?_;simp only[pv];refine p_c 88 func88 #[.pointer v] (QK v z true _ (decide_eq_true (by omega)) (h.below sb)) ?_;intro z1001 k;simp only[pv];replace sb:=kk sb k;clear k;refine p_v _ (Zp _ _ rfl true rfl) (Za ?_);simp only[pv];iterate 8 go_step
 refine rp ?_;refine p_m ?_;simp only[pv];refine p_v _ (Zp _ _ rfl false rfl) (Za ?_);simp only[pv];iterate 4 go_step
 refine rp ?_;refine p_m ?_;simp only[pv];refine p_f 89 func89 #[.pointer v,.string {data:=#[0]}] (hnu _ sb) ?_;rintro _ z4001 ⟨g,rfl,n',r',hb⟩;refine⟨_,rfl,?_⟩;simp only[pv];have b':=Nat.le_trans sb.size n';clear n';have k:=Kept.ofBelow hb;clear hb;replace sb:=kk sb k;clear k;refine p_a ?_;refine p_v (.int .i64 0) (fun _=>rfl) (Za ?_);simp only[pv];go_wp2;go_ret2;exact⟨g,rfl,b',r',sb⟩
theorem IR (v:Option Addr)(z:Nat)(s:List UInt8)(w:World)(hz:0<z)(hz2:z<=32)(hs:s.length<=24)(h:RL w v z):
  Calls prog 46 #[.pointer v,.string ⟨(s).toArray⟩,.bool true] w fun e w'=> ∃g,e= .returned (.tuple #[.slice (some ⟨g,0,none⟩) (pN (ckL s true).length z) (pN (ckL s true).length z),.int .i64 0])/\w.heap.size<=g/\Row w' g (nsC (pN (ckL s true).length z) (ckF (ckL s true) z)) 39/\Below w.heap.size w w':=by
 have hnu:=fun w' (hb:Below w.heap.size w w')=>UQ v z (ckL s true) w' hz hz2 (by have:=Eh (v:=s) true hs;omega) (h.below hb)
 obtain⟨ie,hie,hze,hsz⟩:=IP
 have hs1: ¬1*ie.size>2^24:=by rw[hsz];decide
 have hs2: ¬1*ie.size=0:=by rw[hsz];decide
 have hckL:[UInt8.ofNat (1+s.length)]++s=ckL s true:=by rw[Nat.add_comm];rfl
 go_enter func46,ntmps46
 have sb:=Z9 w;iterate 2 go_step
 refine rp ?_;refine p_v (.slice none 0 0) ((fun _=>rfl)) ?_;refine p_v (.int .i64 0) (fun _=>rfl) (Za ?_);simp only[pv];iterate 4 go_step
 refine rp ?_;refine p_m ?_;simp only[pv];refine p_c 88 func88 #[.pointer v] (QK v z true _ (decide_eq_true (by omega)) (h.below sb)) ?_;intro z1001 k;simp only[pv];replace sb:=kk sb k;clear k;refine p_v _ (Zp _ _ rfl true rfl) (Za ?_);simp only[pv];iterate 8 go_step
 refine rp ?_;refine p_m ?_;simp only[pv];refine p_v _ (Zp _ _ rfl true rfl) (Za ?_);simp only[pv];iterate 8 go_step
 refine rp ?_;refine p_m ?_;simp only[pv];refine p_v _ (YA _ _ rfl s rfl underlying9) ?_;simp only[pv];refine p_v _ (Qe s.length 24) (Za ?_);simp only[pv];iterate 7 go_step
 refine rp ?_;refine p_m ?_;refine p_m ?_;simp only[pv];refine p_v _ (YA _ _ rfl s rfl underlying9) ?_;simp only[pv];refine p_v _ (x_a 1 s.length) ?_;simp only[pv];refine p_v (.int .u8 ((1+s.length:Nat):Int)) (Q6 _ _ _ rfl .i64 .u8 underlying3 underlying5 ((1+s.length:Nat):Int) _ rfl (AV _ (by omega))) ?_;simp only[pv];refine Xg (by rfl) 122 5 1 _ rfl #[.int .u8 ((1+s.length:Nat):Int)] ie _ underlying122 hie hze hs1 hs2 [(0,.int .u8 ((1+s.length:Nat):Int))] rfl (Cl _ _ hsz) ?_;intro gB z7005 n0 rB k;simp only[pv];have bB:=Nat.le_trans sb.size n0;clear n0;replace sb:=kk sb k;clear k;refine Xt (by rfl) (.string ⟨([UInt8.ofNat (1+s.length)]).toArray⟩) _ (Bw _ rfl gB 0 1 1 [UInt8.ofNat (1+s.length)] rfl rfl _ rB.r (Ek _ (by omega))) ?_;refine p_m ?_;simp only[pv];refine p_v (.string ⟨(ckL s true).toArray⟩) (fun w'=>(Ck _ _ _ _ rfl [UInt8.ofNat (1+s.length)] s rfl rfl (by simp;omega) w').trans (by rw[hckL])) ?_;simp only[pv];refine p_f 89 func89 #[.pointer v,.string ⟨(ckL s true).toArray⟩] (hnu _ sb) ?_;rintro _ z7009 ⟨g,rfl,n',r',hb⟩;refine⟨_,rfl,?_⟩;simp only[pv];have dBx':=Nat.lt_of_lt_of_le rB.lt n';have b':=Nat.le_trans sb.size n';clear n';have k:=Kept.ofBelow hb;clear hb;replace rB:=k.ro rB;replace sb:=kk sb k;clear k;refine p_a ?_;refine p_v (.int .i64 0) (fun _=>rfl) (Za ?_);simp only[pv];go_wp2;go_ret2;exact⟨g,rfl,b',r',sb⟩
theorem Cm (v:Option Addr)(z:Nat)(s:List UInt8)(b:Bool)(w:World)(hz:0<z)(hz2:z<=32)(hs:b=true->s.length<=24)(h:RL w v z):
  Calls prog 46 #[.pointer v,.string ⟨(s).toArray⟩,.bool b] w fun e w'=> ∃g,e= .returned (.tuple #[.slice (some ⟨g,0,none⟩) (pN (ckL s b).length z) (pN (ckL s b).length z),.int .i64 0])/\w.heap.size<=g/\Row w' g (nsC (pN (ckL s b).length z) (ckF (ckL s b) z)) 39/\Below w.heap.size w w':=by
 cases b with
 |false=>exact IQ v z s w hz hz2 h
 |true=>exact IR v z s w hz hz2 (hs rfl) h
end Go.Proofs.YtcdahmommonnfaaGreatDoor
