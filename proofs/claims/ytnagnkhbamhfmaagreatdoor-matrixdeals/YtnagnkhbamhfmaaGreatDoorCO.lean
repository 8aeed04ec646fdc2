import Derived.Test.YtnagnkhbamhfmaaGreatDoorSB
import Derived.Test.YtnagnkhbamhfmaaGreatDoorQA
import Derived.Test.YtnagnkhbamhfmaaGreatDoorCW
import Derived.Test.YtnagnkhbamhfmaaGreatDoorPZ
set_option maxRecDepth 100000
set_option maxHeartbeats 8000000
namespace Go.Proofs.YtnagnkhbamhfmaaGreatDoor
set_option linter.all false
open Go.Proofs.Tryz
section
variable {q:Nat}[NeZero q]
theorem J3 (f g:List (Fin q))(k:Nat):pco (Um f g) k=psm (fun i=>pco f i*pco g (k-i)) (k+1):=by
 rw[Td,VV]
 have h1:psm (fun i=>if i<=k then pco f i*pco g (k-i)else 0) (max f.length (k+1))=psm (fun i=>if i<=k then pco f i*pco g (k-i)else 0) f.length:=Tc _ _ _ (by omega) fun i hi _=>by
  show(if i<=k then _ else _)=(0:Fin q)
  split
  ·rw[Wp f i hi];grind
  ·rfl
 have h2:psm (fun i=>if i<=k then pco f i*pco g (k-i)else 0) (max f.length (k+1))=psm (fun i=>if i<=k then pco f i*pco g (k-i)else 0) (k+1):=Tc _ _ _ (by omega) fun i hi _=>by
  show(if i<=k then _ else _)=(0:Fin q)
  exact i_ (by omega)
 rw[<-h1,h2]
 exact Y1 _ _ _ fun i hi=>by
  show(if i<=k then _ else _)=_
  rw[j_ (by omega)]
theorem OE (iv:Fin q->Fin q)(xs:Nat->Fin q)(y:Fin q)(i:Nat): ∀k j,pco (plg iv xs y i k) j=y*pco (plg iv xs 1 i k) j
 |0,0=>by
  show y=y*1
  grind
 |0,j+1=>by
  show(0:Fin q)=y*0
  grind
 |k+1,j=>by
  show pco (if k=i then plg iv xs y i k else Um (plg iv xs y i k) _) j=y*pco (if k=i then plg iv xs 1 i k else Um (plg iv xs 1 i k) _) j
  by_cases h:k=i
  ·rw[j_ h,j_ h];exact OE iv xs y i k j
  ·rw[i_ h,i_ h,J3,J3,<-Ok]
   exact Y1 _ _ _ fun a _=>by
    show pco (plg iv xs y i k) a*_=y*(pco (plg iv xs 1 i k) a*_)
    rw[OE iv xs y i k a]
    grind
theorem OF (iv:Fin q->Fin q)(xs ys:Nat->Fin q)(n j:Nat): ∀m,pco (LC iv xs ys n m) j=psm (fun i=>ys i*pco (plg iv xs 1 i n) j) m
 |0=>rfl
 |m+1=>by
  show pco (Q3 _ _) j=psm _ m+ys m*_
  rw[GU,OF iv xs ys n j m,OE]
end
def smA (f:Nat->Nat):Nat->Nat
 |0=>0
 |n+1=>smA f n+f n
theorem Fr (a b P:Nat):(a%P)^b%P=a^b%P:=(iM0 a b P).symm
theorem J4 {P:Nat}(G:Nat)(a b:Nat->Nat): ∀n,prd (fun j=>(G^a j%P)^b j) n%P=G^smA (fun j=>a j*b j) n%P
 |0=>rfl
 |n+1=>by
  show prd (fun j=>(G^a j%P)^b j) n*(G^a n%P)^b n%P=G^(smA (fun j=>a j*b j) n+a n*b n)%P
  rw[aH0,J4 G a b n,Fr,<-aH0,<-iL0,<-Z_]
section
variable {q:Nat}[NeZero q]
theorem J5 (f:Nat->Nat): ∀n,(fi (smA f n):Fin q)=psm (fun j=>fi (f j)) n
 |0=>TZ
 |n+1=>by
  show(fi (smA f n+f n):Fin q)=psm _ n+fi (f n)
  rw[S3,J5 f n]
theorem E9 (x:Nat): ∀j,(fi (x^j):Fin q)=ppw (fi x) j
 |0=>Jy
 |j+1=>by
  show(fi (x^j*x):Fin q)=_
  rw[Un,E9 x j];rfl
theorem xB {P G:Nat}(h2:2<=P)(h:G^q%P=1)(f:Nat->Nat)(n i:Nat):prd (fun j=>(G^f j%P)^(i^j)) n%P=G^(pev (fi i) (fl n f:List (Fin q))).val%P:=by
 rw[J4,Kz h2 h]
 have e:smA (fun j=>f j*i^j) n%q=(pev (fi i) (fl n f:List (Fin q))).val:=by
  rw[<-TY,J5]
  congr 1
  rw[Oo];rw[Y3]
  exact Y1 _ _ _ fun j hj=>by
   show(fi (f j*i^j):Fin q)=_
   rw[Un,E9,UJ _ _ _ hj]
 rw[e]
theorem co_holds {P G:Nat}(hP:IsP P)(hq:IsP q)(h0:G≠0)(h1:G≠1)(hlt:G<P)(h:G^q%P=1)(f:Nat->Nat)(n i y:Nat)(hy:y<q):G^y%P=prd (fun j=>(G^f j%P)^(i^j)) n%P↔y=(pev (fi i) (fl n f:List (Fin q))).val:=by
 rw[xB hP.1 h,Gb hP hq h0 h1 hlt h,g_ hy,g_ (pev (fi i) (fl n f:List (Fin q))).isLt]
end
section
variable {Q:Nat}[NeZero Q]
theorem xC (q:FdQ Q)(I:Nat->Nat)(n:Nat)(hd: ∀i j,i<n->j<n->i≠j->(fi (I i):Fin Q)≠fi (I j))(k j:Nat)(hk:k<n):pco (wtP I n k:List (Fin Q)) j=pco (plg ivF (fun i=>(fi (I i):Fin Q)) 1 k n) j:=by
 unfold wtP;rw[zL q.pr ivF (E4 q) _ _ n hd,OF]
 have h:=JD (fun _=>(0:Fin Q)) (fun i=>(fi (onK k i):Fin Q)*pco (plg ivF (fun i=>(fi (I i):Fin Q)) 1 i n) j) k (pco (plg ivF (fun i=>(fi (I i):Fin Q)) 1 k n) j) (by
  show(fi (if k=k then 1 else 0):Fin Q)*_=0+_
  rw[j_ rfl,Jy]
  grind) (fun i hi=>by
  show(fi (if i=k then 1 else 0):Fin Q)*_=0
  rw[i_ hi,TZ]
  grind) n hk
 rw[h,WO _ _ (fun _ _=>rfl)]
 grind
theorem xD (q:FdQ Q)(I:Nat->Nat)(n:Nat)(hd: ∀i j,i<n->j<n->i≠j->(fi (I i):Fin Q)≠fi (I j))(L:List (Fin Q))(hl:L.length<=n)(j:Nat):pco L j=psm (fun i=>pco (wtP I n i:List (Fin Q)) j*pev (fi (I i)) L) n:=by
 rw[<-YC,TX q.pr ivF (E4 q) (fun i=>(fi (I i):Fin Q)) (fun i=>pev (fi (I i)) L) n hd L hl (fun _ _=>rfl),OF]
 exact Y1 _ _ _ fun i hi=>by
  show pev (fi (I i)) L*pco (plg ivF _ 1 i n) j=pco (wtP I n i) j*pev (fi (I i)) L
  rw[xC q I n hd i j hi]
  grind
end
open Go.RowKit
theorem Fs (w:World):(zeroValue 3).run prog w= .ok (.int .i64 0) w:=by kernel_rfl
theorem Ft (v f:Option Addr)(P Q G:Nat)(r:Option Addr)(w:World)(h:Oi w v P Q G r f):
  Calls prog 81 #[.pointer v] w fun e w'=>e= .returned (.bool (!f.isNone))/\Below w.heap.size w w':=by
 have hf:=fun w' (hb:Below w.heap.size w w')=>YF v P Q G r f w' (h.below hb)
 go_enter func81,ntmps81
 have sb:=YG w;iterate 2 go_step
 refine rp ?_;refine p_v (.bool false) (fun _=>rfl) (Zb ?_);simp only[pv];iterate 3 go_step
 refine rp ?_;refine p_m ?_;simp only[pv];refine p_c 98 func98 #[.pointer v] (hf _ sb) ?_;intro z1001 k;simp only[pv];replace sb:=kk sb k;clear k;refine p_v _ (YK _ _ _ _ rfl f rfl rfl Vh) ?_;refine p_a (Zb ?_);simp only[pv];go_wp2;go_ret;exact⟨rfl,sb⟩
theorem J6 {fn:Func}(n:Nat)(f:FuncId)(caps:Array Value)(F:Nat->Nat)(w:World)(hf:prog.funcs[f]?=some fn)(hb0:(fn.name== "runtime.NumGoroutine" ||fn.body.isNone)=false)(hn:n<=4000)
  (hc: ∀k:Nat,k<n-> ∀w',Below w.heap.size w w'->Calls prog f (#[.int .i64 k]++caps) w' (Rt (.agg (Zc (F k))) w')):
  Calls prog 83 #[.int .i64 n,.func (.func f) #[] caps] w fun e w'=> ∃g,e= .returned (.slice (some ⟨g,0,none⟩) n n)/\w.heap.size<=g/\Row w' g (nsC n F) 57/\Below w.heap.size w w':=by
 obtain⟨ie,hie,hze,hsz,hby⟩:=Yn
 go_enter func83,ntmps83
 have sb:=YG w;iterate 2 go_step
 refine rp ?_;refine p_v (.slice none 0 0) ((fun _=>rfl)) (Zb ?_);simp only[pv];iterate 3 go_step
 refine rp ?_;refine p_m ?_;simp only[pv];refine XT (by rfl) 22 57 _ _ rfl ie _ r_ hie hze n rfl rfl (by rw[hsz];omega) (by rw[hby];omega) (by omega) ?_;intro gM z1001 n0 rM k;simp only[pv];have bM:=f_ sb.size n0;clear n0;replace sb:=kk sb k;clear k;refine p_a (Zb ?_);simp only[pv];rw[hsz,Xz]at rM;iterate 4 go_step
 refine rp ?_;refine p_m ?_;refine p_v (.int .i64 0) (fun _=>rfl) (Zb ?_);simp only[pv]
 go_wp2_with fail
 go_loopg [6,10] n (fun g s6 s10 wr=> ∃k:Nat,k+g=n/\s10= .int .i64 k/\Row wr gM (nsC n (fun j=>if j<k then F j else 0)) 57/\Below w.heap.size w wr)
 case atStart=>exact⟨0,by omega,rfl,by rw[show(fun j=>if j<0 then F j else 0)=fun _=>0 from funext fun j=>i_ (by omega)];exact rM,sb⟩
 case round=>
  clear rM sb;obtain⟨k,hk,rfl,rM,sb⟩:=hrel
  cases gk with
  |zero=>
   obtain rfl:k=n:=by omega
   clear hk hc;rw[Yw k _ F (fun j hj=>j_ hj)]at rM
   go_step
   refine rp ?_;refine p_v _ (Xe k k) (Zb ?_);simp only[pv];iterate 8 go_step
   refine rp ?_;refine p_m ?_;refine p_a (Zb ?_);simp only[pv];go_wp2;go_ret;exact⟨gM,rfl,bM,rM,sb⟩
  |succ g=>
   have hlt:k<n:=by omega
   have hput:=Wa n (fun j=>if j<k then F j else 0) (fun j=>if j<k+1 then F j else 0) k hlt (0+k*4) (by omega) (F k) (fun j hj=>by
    by_cases hjk:j=k
    ·subst hjk;rw[j_ (by omega),j_ rfl]
    ·rw[i_ hjk];by_cases h2:j<k
     ·rw[j_ h2,j_ (by omega)]
     ·rw[i_ h2,i_ (by omega)])
   go_step
   refine rp ?_;refine p_v _ (X4 k n) (Zb ?_);simp only[pv];iterate 10 go_step
   refine rp ?_;refine p_m ?_;refine p_a (Zb ?_);simp only[pv];iterate 2 go_step
   refine rp ?_;refine p_m ?_;refine p_m ?_;refine p_m ?_;refine p_m ?_;simp only[pv];refine Xa (by rfl) (f) _ _ _ rfl (caps) rfl (hf) (hb0) #[.int .i64 (k:Nat)] rfl _ (hc k hlt _ sb) ?_;intro z5004 k;simp only[pv];replace rM:=k.ro rM;replace sb:=kk sb k;clear k;refine p_x k hlt r_ ZC ?_;simp only[pv];refine VQ (by rfl) 57 _ _ rfl _ (0+k*4) rfl rM (Zc (F k)) rfl (by exact Zd) (by rw[ZZ,Zo];omega) (Zu _) (nsC n (fun j=>if j<k+1 then F j else 0)) hput ?_;clear rM;intro z5006 rM k;simp only[Act.put];replace sb:=kk sb k;clear k;refine Zb ?_;clear hput;iterate 2 go_step
   refine rp ?_;refine p_v _ (x_a k 1) ?_;refine p_m (Zb ?_);simp only[pv];go_wp2
   go_roundg g
   case measure=>omega
   case rel=>exact⟨k+1,by omega,rfl,rM,sb⟩
theorem Fu {fn:Func}(n:Nat)(f:FuncId)(caps:Array Value)(F:Nat->Nat)(w:World)(hf:prog.funcs[f]?=some fn)(hb0:(fn.name== "runtime.NumGoroutine" ||fn.body.isNone)=false)(hn:n<=4000)(g1:Nat)(C:Nat->Array Value)(t1:TypeId)(r1:Row w g1 (C 0) t1)
  (hc: ∀k:Nat,k<n-> ∀w',Kept [g1] w w'->Row w' g1 (C k) t1->Calls prog f (#[.int .i64 k]++caps) w' fun e w2=>e= .returned (.agg (Zc (F k)))/\Row w2 g1 (C (k+1)) t1/\Kept [g1] w' w2):
  Calls prog 83 #[.int .i64 n,.func (.func f) #[] caps] w fun e w'=> ∃g,e= .returned (.slice (some ⟨g,0,none⟩) n n)/\w.heap.size<=g/\Row w' g (nsC n F) 57/\Row w' g1 (C n) t1/\Kept [g1] w w':=by
 obtain⟨ie,hie,hze,hsz,hby⟩:=Yn
 go_enter func83,ntmps83
 have sk:=Kept.refl [g1] w;iterate 2 go_step
 refine rp ?_;refine p_v (.slice none 0 0) ((fun _=>rfl)) (Zb ?_);simp only[pv];iterate 3 go_step
 refine rp ?_;refine p_m ?_;simp only[pv];refine XT (by rfl) 22 57 _ _ rfl ie _ r_ hie hze n rfl rfl (by rw[hsz];omega) (by rw[hby];omega) (by omega) ?_;intro gM z1001 n0 rM k;simp only[pv];have d1xM:=l_l r1.lt n0;have bM:=f_ sk.size n0;clear n0;replace r1:=k.ro r1;replace sk:=sk.trans k (by simp<;>omega);clear k;refine p_a (Zb ?_);simp only[pv];rw[hsz,Xz]at rM;iterate 4 go_step
 refine rp ?_;refine p_m ?_;refine p_v (.int .i64 0) (fun _=>rfl) (Zb ?_);simp only[pv]
 go_wp2_with fail
 go_loopg [6,10] n (fun g s6 s10 wr=> ∃k:Nat,k+g=n/\s10= .int .i64 k/\Row wr gM (nsC n (fun j=>if j<k then F j else 0)) 57/\Row wr g1 (C k) t1/\Kept [g1] w wr/\g1<gM)
 case atStart=>exact⟨0,by omega,rfl,by rw[show(fun j=>if j<0 then F j else 0)=fun _=>0 from funext fun j=>i_ (by omega)];exact rM,r1,sk,d1xM⟩
 case round=>
  clear rM sk r1;obtain⟨k,hk,rfl,rM,r1,sk,d1xM⟩:=hrel
  cases gk with
  |zero=>
   obtain rfl:k=n:=by omega
   clear hk hc;rw[Yw k _ F (fun j hj=>j_ hj)]at rM
   go_step
   refine rp ?_;refine p_v _ (Xe k k) (Zb ?_);simp only[pv];iterate 8 go_step
   refine rp ?_;refine p_m ?_;refine p_a (Zb ?_);simp only[pv];go_wp2;go_ret;exact⟨gM,rfl,bM,rM,r1,sk⟩
  |succ g=>
   have hlt:k<n:=by omega
   have hput:=Wa n (fun j=>if j<k then F j else 0) (fun j=>if j<k+1 then F j else 0) k hlt (0+k*4) (by omega) (F k) (fun j hj=>by
    by_cases hjk:j=k
    ·subst hjk;rw[j_ (by omega),j_ rfl]
    ·rw[i_ hjk];by_cases h2:j<k
     ·rw[j_ h2,j_ (by omega)]
     ·rw[i_ h2,i_ (by omega)])
   go_step
   refine rp ?_;refine p_v _ (X4 k n) (Zb ?_);simp only[pv];iterate 10 go_step
   refine rp ?_;refine p_m ?_;refine p_a (Zb ?_);simp only[pv];iterate 2 go_step
   refine rp ?_;refine p_m ?_;refine p_m ?_;refine p_m ?_;refine p_m ?_;simp only[pv];refine J2 (by rfl) (f) _ _ _ rfl (caps) rfl (hf) (hb0) #[.int .i64 (k:Nat)] rfl (hc k hlt _ sk r1) ?_;clear r1;rintro _ z5004 ⟨rfl,r1,k⟩;refine⟨_,rfl,?_⟩;simp only[pv];replace rM:=k.ro rM;replace sk:=sk.trans k (by simp<;>omega);clear k;refine p_x k hlt r_ ZC ?_;simp only[pv];refine VQ (by rfl) 57 _ _ rfl _ (0+k*4) rfl rM (Zc (F k)) rfl (by exact Zd) (by rw[ZZ,Zo];omega) (Zu _) (nsC n (fun j=>if j<k+1 then F j else 0)) hput ?_;clear rM;intro z5006 rM k;simp only[Act.put];replace r1:=k.ro r1;replace sk:=sk.trans k (by simp<;>omega);clear k;refine Zb ?_;clear hput;iterate 2 go_step
   refine rp ?_;refine p_v _ (x_a k 1) ?_;refine p_m (Zb ?_);simp only[pv];go_wp2
   go_roundg g
   case measure=>omega
   case rel=>exact⟨k+1,by omega,rfl,rM,r1,sk,d1xM⟩
theorem BI (v ab:Option Addr)(n c k S:Nat)(F:Nat->Nat)(g1 g2 gb ob:Nat)(bcs:Array Value)(tb:TypeId)(w:World)(hk:k<n)(r1:Row w g1 #[.pointer v] 25)(r2:Row w g2 #[.slice ab n c] 22)(hna:NatsAt w ab n F gb ob bcs tb)
  (hof: ∀w',Below w.heap.size w w'->Calls prog 85 #[.pointer v,.agg (Zc (F k))] w' (Rt (.agg (Zc S)) w')):
  Calls prog 84 #[.int .i64 k,.pointer (some ⟨g1,0,none⟩),.pointer (some ⟨g2,0,none⟩)] w fun e w'=>e= .returned (.agg (Zc S))/\Below w.heap.size w w':=by
 obtain h0|⟨rfl,rB,hbt⟩:=hna.at'
 ·exact absurd h0 (by omega)
 have hbt':=hbt k hk;have hBw:=rB.lt;have HN:Hid (NatsAt w (some ⟨gb,ob,none⟩) n F gb ob bcs tb):=hna;clear hbt rB hna
 go_enter func84,ntmps84
 iterate 2 go_step
 refine rp ?_;refine ZT (by rfl) 57 rfl _ Zp ?_;intro g4 z0 n0 r4 k;simp only[pv];have d1x4:=l_l r1.lt n0;have d2x4:=l_l r2.lt n0;have b4:w.heap.size<=g4:=n0;clear n0;replace r1:=k.ro r1;replace r2:=k.ro r2;have sb:=k_b k;clear k;refine Zb ?_;obtain h0|⟨_,rB,_⟩:=(HN.out.below sb).at'
 ·exact absurd h0 (by omega)
 iterate 3 go_step
 apply Zi (by kernel_rfl) [(g4,57,Zc 0)] [_,_,_,_,_,_,_] ⟨r4,trivial⟩ (by simp<;>omega)
 ·intro p;refine Zs 25 _ rfl _ (0) rfl r1 (by simp<;>omega) (.pointer v) rfl eL0 ?_;simp only[pv];refine Zs 22 _ rfl _ (0) rfl r2 (by simp<;>omega) (.slice (some ⟨gb,ob,none⟩) n c) rfl aD0 ?_;refine m_m ?_;simp only[pv];refine m_x k hk r_ ZC ?_;simp only[pv];refine Yj 57 _ rfl _ (ob+k*4) rfl rB (by simp<;>omega) (Zc (F k)) hbt' _ b_ rfl Zd ?_;simp only[pv];refine m_k 85 func85 #[.pointer v,.agg (Zc (F k))] (fun w' hk=>hof w' (sb.trans (hk.below w.heap.size sb.size (by simp<;>omega)))) ?_;simp only[pv];refine m_p 0 S ?_;simp only[Act.put];refine Zf ?_;intro w2 hkw hrw hnew hdis;have zr4:Row w2 (g4) (Zc S) 57:=hrw 0 (57,Zc S) rfl;replace sb:=kk sb hkw;clear hkw hrw hnew hdis r4;have r4:=zr4;clear zr4;go_wp2;exact ZM rfl _ rfl r4 4 _ b_ (by exact Zd) rfl ⟨rfl,sb⟩
 ·kernel_rfl
section
variable {Q:Nat}[NeZero Q]{g gr gf P G:Nat}{w:World}
theorem xE (ab:Option Addr)(m c:Nat)(La:List (Fin Q))(q:FdQ Q)(h:GrpAt w g gr gf P Q G)(ha:PlA w (.slice ab m c) La):
  Calls prog 82 #[.pointer (some ⟨g,0,none⟩),.slice ab m c] w fun e w'=> ∃gT N,e= .returned (.slice (some ⟨gT,0,none⟩) (Yk La).length N)/\w.heap.size<=gT/\(Yk La).length<=N/\N<=1000/\Row w' gT (nsC N (fun i=>(pco La i).val)) 57/\Below w.heap.size w w':=by
 obtain⟨ab',n,c',F,gb,ob,bcs,tb,he,hn,hna,rfl⟩:=ha;cases he
 refine(RW _ ab m c F (fO Q) gb ob bcs tb w (by omega) hna (h.fa q)).mono ?_;rintro e w' ⟨gx,rfl,hg,r,hb⟩;obtain⟨gT,N,he,h1,h2,h3⟩:=E5 (L:=(fl m F:List (Fin Q))) r hg (fun i _=>JB F i) (fun i=>by rw[JA]);simp only[gN0,aL0,Addr.mk.injEq,and_true,true_and]at he;obtain⟨rfl,h4,rfl⟩:=he;rw[h4];simp only[YC]at h3;exact⟨gx,m,rfl,h1,h2,hn,h3,hb⟩
theorem xF (ab:Option Addr)(m c:Nat)(La:List (Fin Q))(n:Nat)(h1:1<=n)(h7:n<=7)(hl0:(Yk La).length<=n)(q:FdQ Q)(qp:RgQ P)(hG:G<2^256)(h:GrpAt w g gr gf P Q G)(ha:PlA w (.slice ab m c) La):
  Calls prog 36 #[.pointer (some ⟨g,0,none⟩),.slice ab m c,.int .i64 n] w fun e w'=> ∃gC,e= .returned (.tuple #[.slice (some ⟨gC,0,none⟩) n n,.int .i64 0])/\w.heap.size<=gC/\Row w' gC (nsC n (fun k=>G^(pco La k).val%P)) 57/\Below w.heap.size w w':=by
 have htr:=fun w' (hb:Below w.heap.size w w')=>xE ab m c La q (h.below hb) (ha.below hb)
 obtain⟨U,hU⟩: ∃U:Nat->Nat,∀i,(pco La i).val=U i:=⟨_,fun _=>rfl⟩
 obtain⟨tl,htl⟩: ∃tl,(Yk La).length=tl:=⟨_,rfl⟩
 have hg:=fun w' (hb:Below w.heap.size w w')=>Ft (some ⟨g,0,none⟩) (some ⟨gf,0,none⟩) P Q G (some ⟨gr,0,none⟩) w' (h.below hb).kn
 have HUl:Hid (∀i,U i<2^256):=fun i=>hU i▸E_ (pco La i).isLt q.m
 have HU0:Hid (∀i,tl<=i->U i=0):=fun i hi=>by
  rw[<-hU,<-YC,Wp _ i (by omega)];rfl
 have hof:=fun k w' (hb:Below w.heap.size w w')=>E6 (U k) g gr gf P Q G w' (HUl.out k) hG qp (h.below hb)
 simp only[hU,htl]at htr ⊢;rw[htl]at hl0;clear ha hU htl
 go_enter func36,ntmps36
 have sb:=YG w;iterate 2 go_step
 refine rp ?_;refine Ye (by rfl) 25 _ rfl (.pointer (some ⟨g,0,none⟩)) rfl rfl ?_;intro g3 z0 n0 r3 k;simp only[pv];clear n0;replace sb:=kk sb k;clear k;refine Ye (by rfl) 22 _ rfl (.slice ab m c) rfl rfl ?_;intro g4 z1 n0 r4 k;simp only[pv];have d3x4:=l_l r3.lt n0;have b4:=f_ sb.size n0;clear n0;replace r3:=k.ro r3;replace sb:=kk sb k;clear k;refine p_v (.slice none 0 0) ((fun _=>rfl)) ?_;refine p_v (.int .i64 0) (fun _=>rfl) (Zb ?_);simp only[pv];iterate 4 go_step
 refine rp ?_;refine p_d 0 r3.r (.pointer (some ⟨g,0,none⟩)) rfl eL0 ?_;simp only[pv];refine p_c 81 func81 #[.pointer (some ⟨g,0,none⟩)] (hg _ sb) ?_;intro z1001 k;simp only[pv];replace r3:=k.ro r3;replace r4:=k.ro r4;replace sb:=kk sb k;clear k;refine p_v _ (Zz _ _ rfl true rfl) ?_;refine p_m ?_;refine p_m ?_;refine p_v _ (Xe n 1) ?_;refine p_k false (.bool false) ?_;simp only[pv];refine p_m ?_;refine p_m ?_;refine p_v _ (UY n 7) ?_;refine p_k false (.bool false) (Zb ?_);simp only[pv];clear hg;iterate 7 go_step
 refine rp ?_;refine p_d 0 r3.r (.pointer (some ⟨g,0,none⟩)) rfl eL0 ?_;simp only[pv];refine p_d 0 r4.r (.slice ab m c) rfl aD0 ?_;simp only[pv];refine p_f 82 func82 #[.pointer (some ⟨g,0,none⟩),.slice ab m c] (htr _ sb) ?_;rintro _ z3002 ⟨gT,N,rfl,nT,hl,hN,rT,hb⟩;refine⟨_,rfl,?_⟩;simp only[pv];have d3xT:=l_l r3.lt nT;have d4xT:=l_l r4.lt nT;have bT:=f_ sb.size nT;clear nT;have k:=Kept.ofBelow hb;clear hb;replace r3:=k.ro r3;replace r4:=k.ro r4;replace sb:=kk sb k;clear k;refine Xx (by rfl) 22 _ _ rfl _ (0) rfl r4 (.slice (some ⟨gT,0,none⟩) tl N) rfl rfl rfl Yy (by exact Nat.one_pos) (#[.slice (some ⟨gT,0,none⟩) tl N]) rfl ?_;clear r4;intro z3003 r4 k;simp only[Act.put];replace r3:=k.ro r3;replace rT:=k.ro rT;replace sb:=kk sb k;clear k;refine Zb ?_;clear htr;iterate 4 go_step
 refine rp ?_;refine p_d 0 r4.r (.slice (some ⟨gT,0,none⟩) tl N) rfl aD0 ?_;simp only[pv];refine p_v _ (n_l (some ⟨gT,0,none⟩) tl N Zm) ?_;refine p_m ?_;refine p_v _ (UY tl n) (Zb ?_);simp only[pv];have hO:=Fm (m:=tl) rT bT hl hN;iterate 7 go_step
 refine rp ?_;refine p_d 0 r4.r (.slice (some ⟨gT,0,none⟩) tl N) rfl aD0 ?_;refine p_m ?_;simp only[pv];refine p_d 0 r4.r (.slice (some ⟨gT,0,none⟩) tl N) rfl aD0 ?_;simp only[pv];refine p_v _ (n_l (some ⟨gT,0,none⟩) tl N Zm) ?_;simp only[pv];refine p_v (.int .i64 ((n-tl:Nat):Int)) ((fun w'=>(Z2 _ _ _ _ rfl n tl rfl rfl (by omega) (by omega) w'))) ?_;simp only[pv];refine BF (by rfl) _ _ rfl (w.heap.size) gT (N) (tl) (U) rfl hO (n-tl) rfl ((fun i _=>HU0.out _ (by omega))) ((by omega)) sb.size ?_;clear hO rT;intro v1 z6005 hO k hp;obtain⟨av1,cv1,rfl⟩:=We hO;simp only[pv];have ehOx4:=zU hp (show g4≠gT by omega) r4.lt;clear hp;replace r3:=k.ro r3;replace r4:=k.ro r4;replace sb:=kk sb k;clear k;refine Xx (by rfl) 22 _ _ rfl _ (0) rfl r4 (.slice av1 (tl+(n-tl)) cv1) rfl rfl rfl Yy (by exact Nat.one_pos) (#[.slice av1 (tl+(n-tl)) cv1]) rfl ?_;clear r4;intro z6006 r4 k;simp only[Act.put];replace r3:=k.ro r3;replace hO:=hO.on k (JK ehOx4);replace sb:=kk sb k;clear k;refine Zb ?_;rw[show tl+(n-tl)=n by omega]at hO r4 ⊢;obtain⟨_,gc,cur,hnc⟩:=Uq hO (fun i _=>HUl.out i);clear hO ehOx4;have hto:=fun w' (hb:Below w.heap.size w w') (q3:Row w' g3 #[.pointer (some ⟨g,0,none⟩)] 25) (q4:Row w' g4 #[.slice av1 n cv1] 22) (hn':NatsAt w' av1 n U gc 0 cur 57)=>J6 n 84 #[.pointer (some ⟨g3,0,none⟩),.pointer (some ⟨g4,0,none⟩)] (fun k=>G^U k%P) w' func84 (by kernel_rfl) (by omega) (fun k hk w2 hb2=>BI _ av1 n cv1 k (G^U k%P) U g3 g4 gc 0 cur 57 w2 hk (q3.belowAll hb2) (q4.belowAll hb2) (hn'.below hb2) (fun w3 hb3=>hof k w3 (Zk (Zk hb (c_ _) hb2) (c_ _) hb3)))
 clear hof;iterate 3 go_step
 refine rp ?_;refine p_m ?_;simp only[pv];refine p_v (.func (.func 84) #[] #[.pointer (some ⟨g3,0,none⟩),.pointer (some ⟨g4,0,none⟩)]) (Yr _ _ rfl _ rfl) ?_;simp only[pv];refine p_f 83 func83 #[.int .i64 n,.func (.func 84) #[] #[.pointer (some ⟨g3,0,none⟩),.pointer (some ⟨g4,0,none⟩)]] (hto _ sb r3 r4 hnc) ?_;rintro _ z7002 ⟨gC,rfl,nC,rC,hb⟩;refine⟨_,rfl,?_⟩;simp only[pv];have bC:=f_ sb.size nC;clear nC;have k:=Kept.ofBelow hb;clear hb;replace r3:=k.ro r3;replace r4:=k.ro r4;replace hnc:=hnc.below k.nil;replace sb:=kk sb k;clear k;refine p_a ?_;refine p_v (.int .i64 0) (fun _=>rfl) (Zb ?_);simp only[pv];go_wp2;go_ret2;exact⟨gC,rfl,bC,rC,sb⟩
end
theorem BJ (k X i g1 g2:Nat)(w:World)(hX:X<4611686018427387904)(hXi:X*i<4611686018427387904)(hd:g1≠g2)(r1:Row w g1 #[.int .i64 ((X:Nat):Int)] 3)(r2:Row w g2 #[.int .i64 ((i:Nat):Int)] 3):
  Calls prog 164 #[.int .i64 k,.pointer (some ⟨g1,0,none⟩),.pointer (some ⟨g2,0,none⟩)] w fun e w'=>e= .returned (.agg (Zc X))/\Row w' g1 #[.int .i64 ((X*i:Nat):Int)] 3/\Kept [g1] w w':=by
 have hof:=fun w'=>Xl ((X:Nat):Int) w' (by omega)
 rw[q_]at hof
 go_enter func164,ntmps164
 have sk:=Kept.refl [g1] w;iterate 2 go_step
 refine rp ?_;refine ZT (by rfl) 57 rfl _ Zp ?_;intro g4 z0 n0 r4 k;simp only[pv];have d1x4:=l_l r1.lt n0;have d2x4:=l_l r2.lt n0;have b4:=f_ sk.size n0;clear n0;replace r1:=k.ro r1;replace r2:=k.ro r2;replace sk:=sk.trans k (by simp<;>omega);clear k;refine Zb ?_;iterate 3 go_step
 refine rp ?_;refine p_d 0 r1.r (.int .i64 ((X:Nat):Int)) rfl bG0 ?_;simp only[pv];refine p_c 57 gZ0 #[.int .i64 ((X:Nat):Int)] (hof _) ?_;intro z1001 k;simp only[pv];replace r1:=k.ro r1;replace r2:=k.ro r2;replace r4:=k.ro r4;replace sk:=sk.trans k (by simp<;>omega);clear k;refine ZT (by rfl) 57 rfl _ Zp ?_;intro g5 z1002 n0 r5 k;simp only[pv];have d1x5:=l_l r1.lt n0;have d2x5:=l_l r2.lt n0;have d4x5:=l_l r4.lt n0;have b5:=f_ sk.size n0;clear n0;replace r1:=k.ro r1;replace r2:=k.ro r2;replace r4:=k.ro r4;replace sk:=sk.trans k (by simp<;>omega);clear k;refine p_p r5 X ?_;clear r5;intro z1003 r5 k;simp only[Act.put];replace r1:=k.ro r1;replace r2:=k.ro r2;replace r4:=k.ro r4;replace sk:=sk.trans k (by simp<;>omega);clear k;refine Zb ?_;iterate 3 go_step
 refine rp ?_;refine p_d 0 r1.r (.int .i64 ((X:Nat):Int)) rfl bG0 ?_;simp only[pv];refine p_d 0 r2.r (.int .i64 ((i:Nat):Int)) rfl bG0 ?_;simp only[pv];refine p_v _ (Z7 _ _ _ _ rfl X i (X*i) rfl rfl rfl (by omega)) ?_;simp only[pv];refine Xx (by rfl) 3 _ _ rfl _ (0) rfl r1 (.int .i64 ((X*i:Nat):Int)) rfl rfl rfl Vg (by exact Nat.one_pos) (#[.int .i64 ((X*i:Nat):Int)]) rfl ?_;clear r1;intro z2003 r1 k;simp only[Act.put];replace r2:=k.ro r2;replace r4:=k.ro r4;replace r5:=k.ro r5;replace sk:=sk.trans k (by simp<;>omega);clear k;refine Zb ?_;iterate 3 go_step
 refine rp ?_;refine p_l r5.r ?_;simp only[pv];refine p_p r4 X ?_;clear r4;intro z3001 r4 k;simp only[Act.put];replace r1:=k.ro r1;replace r2:=k.ro r2;replace r5:=k.ro r5;replace sk:=sk.trans k (by simp<;>omega);clear k;refine Zb ?_;go_wp2;exact ZM rfl _ rfl r4 4 _ b_ (by exact Zd) rfl ⟨rfl,r1,sk⟩
theorem xG (vg:Value)(ab:Option Addr)(n c:Nat)(i:Int)(w:World)(h:i<0∨7<i∨7<n):
  Calls prog 117 #[vg,.slice ab n c,.int .i64 i] w fun e w'=>e= .returned (.agg (Zc 0))/\Below w.heap.size w w':=by
 by_cases h1:i<0
 ·clear h
  go_enter func117,ntmps117
  iterate 2 go_step
  refine rp ?_;refine Ye (by rfl) 3 _ rfl (.int .i64 i) rfl rfl ?_;intro g5 z0 n0 r5 k;simp only[pv];clear n0;have sb:=k_b k;clear k;refine ZT (by rfl) 57 rfl _ Zp ?_;intro g6 z1 n0 r6 k;simp only[pv];have b6:=f_ sb.size n0;clear n0;replace r5:=k.ro r5;replace sb:=kk sb k;clear k;refine Zb ?_;iterate 4 go_step
  refine rp ?_;refine p_d 0 r5.r (.int .i64 i) rfl bG0 ?_;simp only[pv];refine p_v _ (YB _ _ _ _ rfl i 0 rfl rfl true (d_ h1)) ?_;refine p_m ?_;refine p_s ?_;refine p_s ?_;refine p_k true (.bool true) ?_;simp only[pv];refine p_m ?_;refine p_s ?_;refine p_s ?_;refine p_s ?_;refine p_k true (.bool true) (Zb ?_);simp only[pv];iterate 4 go_step
  refine rp ?_;refine p_v _ (ZE _ rfl _ ZA) ?_;simp only[pv];refine p_p r6 0 ?_;clear r6;intro z2001 r6 k;simp only[Act.put];replace sb:=kk sb k;clear k;refine Zb ?_;go_wp2;exact ZM rfl _ rfl r6 4 _ b_ (by exact Zd) rfl ⟨rfl,sb⟩
 ·by_cases h2:7<i
  ·clear h
   go_enter func117,ntmps117
   iterate 2 go_step
   refine rp ?_;refine Ye (by rfl) 3 _ rfl (.int .i64 i) rfl rfl ?_;intro g5 z0 n0 r5 k;simp only[pv];clear n0;have sb:=k_b k;clear k;refine ZT (by rfl) 57 rfl _ Zp ?_;intro g6 z1 n0 r6 k;simp only[pv];have b6:=f_ sb.size n0;clear n0;replace r5:=k.ro r5;replace sb:=kk sb k;clear k;refine Zb ?_;iterate 4 go_step
   refine rp ?_;refine p_d 0 r5.r (.int .i64 i) rfl bG0 ?_;simp only[pv];refine p_v _ (YB _ _ _ _ rfl i 0 rfl rfl false (e_ h1)) ?_;refine p_m ?_;simp only[pv];refine p_d 0 r5.r (.int .i64 i) rfl bG0 ?_;simp only[pv];refine p_v _ (Yg _ _ _ _ rfl i 7 rfl rfl true (d_ h2)) ?_;refine p_k false (.bool true) ?_;refine p_m ?_;refine p_s ?_;refine p_s ?_;simp only[pv];refine p_s ?_;refine p_k true (.bool true) (Zb ?_);simp only[pv];iterate 4 go_step
   refine rp ?_;refine p_v _ (ZE _ rfl _ ZA) ?_;simp only[pv];refine p_p r6 0 ?_;clear r6;intro z2001 r6 k;simp only[Act.put];replace sb:=kk sb k;clear k;refine Zb ?_;go_wp2;exact ZM rfl _ rfl r6 4 _ b_ (by exact Zd) rfl ⟨rfl,sb⟩
  ·have h3:7<n:=by omega
   clear h
   go_enter func117,ntmps117
   iterate 2 go_step
   refine rp ?_;refine Ye (by rfl) 3 _ rfl (.int .i64 i) rfl rfl ?_;intro g5 z0 n0 r5 k;simp only[pv];clear n0;have sb:=k_b k;clear k;refine ZT (by rfl) 57 rfl _ Zp ?_;intro g6 z1 n0 r6 k;simp only[pv];have b6:=f_ sb.size n0;clear n0;replace r5:=k.ro r5;replace sb:=kk sb k;clear k;refine Zb ?_;iterate 4 go_step
   refine rp ?_;refine p_d 0 r5.r (.int .i64 i) rfl bG0 ?_;simp only[pv];refine p_v _ (YB _ _ _ _ rfl i 0 rfl rfl false (e_ h1)) ?_;refine p_m ?_;simp only[pv];refine p_d 0 r5.r (.int .i64 i) rfl bG0 ?_;simp only[pv];refine p_v _ (Yg _ _ _ _ rfl i 7 rfl rfl false (e_ h2)) ?_;refine p_k false (.bool false) ?_;refine p_m ?_;refine p_m ?_;simp only[pv];refine p_v _ (n_l ab n c Zm) ?_;refine p_v _ (Gh n 7) ?_;refine p_k false (.bool true) (Zb ?_);simp only[pv];iterate 4 go_step
   refine rp ?_;refine p_v _ (ZE _ rfl _ ZA) ?_;simp only[pv];refine p_p r6 0 ?_;clear r6;intro z2001 r6 k;simp only[Act.put];replace sb:=kk sb k;clear k;refine Zb ?_;go_wp2;exact ZM rfl _ rfl r6 4 _ b_ (by exact Zd) rfl ⟨rfl,sb⟩
theorem xH {i k:Nat}(hi:i<=7)(hk:k<=7):i^k<4611686018427387904:=
 T_ (f_ (Nat.pow_le_pow_left hi k) (aF0 (by decide) hk)) (by decide)
theorem BK (v ab:Option Addr)(n c i S:Nat)(z:Int)(w:World)(h7:n<=7)(hi:i<=7)
  (hmu: ∀w' gE,Below w.heap.size w w'->Row w' gE (nsC n (fun j=>i^j)) 57->Calls prog 165 #[.pointer v,.slice ab n c,.slice (some ⟨gE,0,none⟩) n n] w' (Rt (.tuple #[.agg (Zc S),.int .i64 z]) w')):
  Calls prog 117 #[.pointer v,.slice ab n c,.int .i64 i] w fun e w'=>e= .returned (.agg (Zc S))/\Below w.heap.size w w':=by
 have hto:=fun w' g7 g5 (hne:g7≠g5) (q7:Row w' g7 #[.int .i64 ((i^0:Nat):Int)] 3) (q5:Row w' g5 #[.int .i64 ((i:Nat):Int)] 3)=>Fu n 164 #[.pointer (some ⟨g7,0,none⟩),.pointer (some ⟨g5,0,none⟩)] (fun j=>i^j) w' func164 (by kernel_rfl) (by omega) g7 (fun k=>#[.int .i64 ((i^k:Nat):Int)]) 3 q7 (fun k hk w2 hk2 hr2=>BJ k (i^k) i g7 g5 w2 (xH hi (by omega)) (by rw[<-cN0];exact xH hi (by omega)) hne hr2 (hk2.row q5 (by simp;omega)))
 have h10:i^0=1:=W_ i;generalize (fun j=>i^j)=E at*
 go_enter func117,ntmps117
 iterate 2 go_step
 refine rp ?_;refine Ye (by rfl) 3 _ rfl (.int .i64 ((i:Nat):Int)) rfl rfl ?_;intro g5 z0 n0 r5 k;simp only[pv];clear n0;have sb:=k_b k;clear k;refine ZT (by rfl) 57 rfl _ Zp ?_;intro g6 z1 n0 r6 k;simp only[pv];have b6:=f_ sb.size n0;clear n0;replace r5:=k.ro r5;replace sb:=kk sb k;clear k;refine Zb ?_;iterate 4 go_step
 refine rp ?_;refine p_d 0 r5.r (.int .i64 ((i:Nat):Int)) rfl bG0 ?_;refine p_v _ (Xe i 0) ?_;refine p_m ?_;simp only[pv];refine p_d 0 r5.r (.int .i64 ((i:Nat):Int)) rfl bG0 ?_;refine p_v _ (UY i 7) ?_;refine p_k false (.bool false) ?_;refine p_m ?_;refine p_m ?_;simp only[pv];refine p_v _ (n_l ab n c Zm) ?_;refine p_v _ (UY n 7) ?_;refine p_k false (.bool false) (Zb ?_);simp only[pv];iterate 7 go_step
 refine rp ?_;refine Se (by rfl) 3 rfl (.int .i64 0) Fs rfl ?_;intro g7 z3000 n0 r7 k;simp only[pv];have d5x7:=l_l r5.lt n0;have d6x7:=l_l r6.lt n0;have b7:=f_ sb.size n0;clear n0;replace r5:=k.ro r5;replace r6:=k.ro r6;replace sb:=kk sb k;clear k;refine Xx (by rfl) 3 _ _ rfl _ (0) rfl r7 (.int .i64 1) rfl rfl rfl Vg (by exact Nat.one_pos) (#[.int .i64 1]) rfl ?_;clear r7;intro z3001 r7 k;simp only[Act.put];replace r5:=k.ro r5;replace r6:=k.ro r6;replace sb:=kk sb k;clear k;refine Zb ?_
 have r7':Row z3001 g7 #[.int .i64 ((i^0:Nat):Int)] 3:=by rw[h10];exact r7
 have hd:g7≠g5:=by omega
 clear r7
 rename Row _ g7 _ _=>r7
 iterate 3 go_step
 refine rp ?_;refine p_m ?_;simp only[pv];refine p_v _ (n_l ab n c Zm) ?_;simp only[pv];refine p_v (.func (.func 164) #[] #[.pointer (some ⟨g7,0,none⟩),.pointer (some ⟨g5,0,none⟩)]) (Yr _ _ rfl _ rfl) ?_;simp only[pv];refine p_f 83 func83 #[.int .i64 n,.func (.func 164) #[] #[.pointer (some ⟨g7,0,none⟩),.pointer (some ⟨g5,0,none⟩)]] (hto _ g7 g5 hd r7 r5) ?_;clear r7;rintro _ z4003 ⟨gE,rfl,nE,rE,r7,k⟩;refine⟨_,rfl,?_⟩;simp only[pv];replace r5:=k.ro r5;replace r6:=k.ro r6;replace sb:=kk sb k;clear k;refine p_a (Zb ?_);simp only[pv];clear hto;iterate 3 go_step
 refine rp ?_;refine p_m ?_;refine p_m ?_;refine p_m ?_;simp only[pv];refine p_c 165 func165 #[.pointer v,.slice ab n c,.slice (some ⟨gE,0,none⟩) n n] (hmu _ gE sb rE) ?_;intro z5003 k;simp only[pv];replace r6:=k.ro r6;replace rE:=k.ro rE;replace sb:=kk sb k;clear k;refine p_m ?_;refine p_e ?_;refine p_e ?_;simp only[pv];refine ZT (by rfl) 57 rfl _ Zp ?_;intro g9 z5007 n0 r9 k;simp only[pv];have d6x9:=l_l r6.lt n0;have dEx9:=l_l rE.lt n0;have b9:=f_ sb.size n0;clear n0;replace r6:=k.ro r6;replace rE:=k.ro rE;replace sb:=kk sb k;clear k;refine p_p r9 S ?_;clear r9;intro z5008 r9 k;simp only[Act.put];replace r6:=k.ro r6;replace rE:=k.ro rE;replace sb:=kk sb k;clear k;refine p_a (Zb ?_);simp only[pv];iterate 3 go_step
 refine rp ?_;refine p_l r9.r ?_;simp only[pv];refine p_p r6 S ?_;clear r6;intro z6001 r6 k;simp only[Act.put];replace r9:=k.ro r9;replace sb:=kk sb k;clear k;refine Zb ?_;go_wp2;exact ZM rfl _ rfl r6 4 _ b_ (by exact Zd) rfl ⟨rfl,sb⟩
theorem Fv {fn:Func}(ab:Option Addr)(n c:Nat)(Y:Nat->Nat)(gb ob:Nat)(bcs:Array Value)(tb:TypeId)(f:FuncId)(caps:Array Value)(B:Nat->Bool)(w:World)(hf:prog.funcs[f]?=some fn)(hb0:(fn.name== "runtime.NumGoroutine" ||fn.body.isNone)=false)(hn:n<4611686018427387904)(hna:NatsAt w ab n Y gb ob bcs tb)
  (hc: ∀k:Nat,k<n-> ∀w',Below w.heap.size w w'->Calls prog f (#[.agg (Zc (Y k))]++caps) w' (Rt (.bool (B k)) w')):
  Calls prog 127 #[.slice ab n c,.func (.func f) #[] caps] w fun e w'=> ∃z:Int,e= .returned (.int .i64 z)/\decide (0<=z)=anB B n/\Below w.heap.size w w':=by
 have HB:Hid (NatsAt w ab n Y gb ob bcs tb):=hna;clear hna
 go_enter func127,ntmps127
 have sb:=YG w;iterate 2 go_step
 refine rp ?_;refine p_v (.int .i64 0) (fun _=>rfl) (Zb ?_);simp only[pv];iterate 4 go_step
 refine rp ?_;refine p_m ?_;simp only[pv];refine p_v _ (n_l ab n c Zm) ?_;refine p_v (.int .i64 0) (fun _=>rfl) (Zb ?_);simp only[pv]
 go_wp2_with fail
 go_loopg [5,8] n (fun x s5 s8 wr=> ∃k:Nat,k+x=n/\s8= .int .i64 k/\anB B k=false/\Below w.heap.size w wr)
 case atStart=>exact⟨0,by omega,rfl,rfl,sb⟩
 case round=>
  clear sb;obtain⟨k,hk,rfl,han,sb⟩:=hrel
  cases gk with
  |zero=>
   obtain rfl:k=n:=by omega
   have HF:Hid (anB B k=false):=han;clear hk hc han
   go_step
   refine rp ?_;refine p_v _ (Xe k k) (Zb ?_);simp only[pv];iterate 8 go_step
   refine rp ?_;refine p_v (.int .i64 (-1)) ((fun _=>rfl)) (Zb ?_);simp only[pv];go_wp2;go_ret;exact⟨_,rfl,by rw[HF.out];rfl,sb⟩
  |succ x=>
   have hlt:k<n:=by omega
   have hck:=hc k hlt;clear hc;obtain h0|⟨rfl,rB,hbt⟩:=(HB.out.below sb).at'
   ·exact absurd h0 (by omega)
   have hbt':=hbt k hlt;clear hbt
   go_step
   refine rp ?_;refine p_v _ (X4 k n) (Zb ?_);simp only[pv];iterate 10 go_step
   refine rp ?_;refine p_m ?_;refine p_a (Zb ?_);simp only[pv]
   cases hBk:B k with
   |true=>
    have HF:Hid (anB B n=true):=(Vm B n).2 ⟨k,hlt,hBk⟩;rw[hBk]at hck;iterate 3 go_step
    refine rp ?_;refine p_m ?_;refine p_m ?_;refine p_m ?_;simp only[pv];refine p_x k hlt r_ ZC ?_;simp only[pv];refine ZJ (by rfl) 57 _ rfl _ (ob+k*4) rfl rB (Zc (Y k)) hbt' _ b_ rfl Zd ?_;simp only[pv];refine Xa (by rfl) (f) _ _ _ rfl (caps) rfl (hf) (hb0) #[.agg (Zc (Y k))] rfl _ (hck _ sb) ?_;intro z4005 k;simp only[pv];replace sb:=kk sb k;clear k;refine Zb ?_;clear rB;iterate 4 go_step
    refine rp ?_;refine p_m ?_;refine p_a (Zb ?_);simp only[pv];go_wp2;go_ret;exact⟨_,rfl,by rw[HF.out];exact d_ (by omega),sb⟩
   |false=>
    have hnx:anB B (k+1)=false:=by
     show(anB B k||B k)=false
     rw[han,hBk];rfl
    rw[hBk]at hck;iterate 3 go_step
    refine rp ?_;refine p_m ?_;refine p_m ?_;refine p_m ?_;simp only[pv];refine p_x k hlt r_ ZC ?_;simp only[pv];refine ZJ (by rfl) 57 _ rfl _ (ob+k*4) rfl rB (Zc (Y k)) hbt' _ b_ rfl Zd ?_;simp only[pv];refine Xa (by rfl) (f) _ _ _ rfl (caps) rfl (hf) (hb0) #[.agg (Zc (Y k))] rfl _ (hck _ sb) ?_;intro z4005 k;simp only[pv];replace sb:=kk sb k;clear k;refine Zb ?_;clear rB;iterate 6 go_step
    refine rp ?_;refine p_v _ (x_a k 1) ?_;refine p_m (Zb ?_);simp only[pv];go_wp2
    go_roundg x
    case measure=>omega
    case rel=>exact⟨k+1,by omega,rfl,hnx,sb⟩
theorem NM {fn:Func}(ab:Option Addr)(n c:Nat)(Y:Nat->Nat)(gb ob:Nat)(bcs:Array Value)(tb:TypeId)(f:FuncId)(caps:Array Value)(B:Nat->Bool)(w:World)(hf:prog.funcs[f]?=some fn)(hb0:(fn.name== "runtime.NumGoroutine" ||fn.body.isNone)=false)(hn:n<4611686018427387904)(hna:NatsAt w ab n Y gb ob bcs tb)
  (hc: ∀k:Nat,k<n-> ∀w',Below w.heap.size w w'->Calls prog f (#[.agg (Zc (Y k))]++caps) w' (Rt (.bool (B k)) w')):
  Calls prog 77 #[.slice ab n c,.func (.func f) #[] caps] w fun e w'=>e= .returned (.bool (anB B n))/\Below w.heap.size w w':=by
 have hix:=fun w' (hb:Below w.heap.size w w')=>Fv ab n c Y gb ob bcs tb f caps B w' hf hb0 hn (hna.below hb) (fun k hk w2 h2=>hc k hk w2 (Zk hb (c_ _) h2))
 clear hna hc
 go_enter func77,ntmps77
 have sb:=YG w;iterate 2 go_step
 refine rp ?_;refine p_v (.bool false) (fun _=>rfl) (Zb ?_);simp only[pv];iterate 3 go_step
 refine rp ?_;refine p_m ?_;refine p_m ?_;simp only[pv];refine p_f 127 func127 #[.slice ab n c,.func (.func f) #[] caps] (hix _ sb) ?_;rintro _ z1002 ⟨z,rfl,hz,hb⟩;refine⟨_,rfl,?_⟩;simp only[pv];have k:=Kept.ofBelow hb;clear hb;replace sb:=kk sb k;clear k;refine p_v _ (ZY _ _ _ _ rfl z 0 rfl rfl (anB B n) hz) ?_;refine p_a (Zb ?_);simp only[pv];go_wp2;go_ret;exact⟨rfl,sb⟩
theorem Fw (v:Option Addr)(A g1:Nat)(B:Bool)(w:World)(r1:Row w g1 #[.pointer v] 25)
  (hin: ∀w',Below w.heap.size w w'->Calls prog 120 #[.pointer v,.agg (Zc A)] w' (Rt (.bool B) w')):
  Calls prog 119 #[.agg (Zc A),.pointer (some ⟨g1,0,none⟩)] w fun e w'=>e= .returned (.bool (!B))/\Below w.heap.size w w':=by
 go_enter func119,ntmps119
 iterate 2 go_step
 refine rp ?_;refine ZO (by rfl) 57 _ rfl (Zc A) rfl ?_;intro g2 z0 n0 r2 k;simp only[pv];clear n0;replace r1:=k.ro r1;have sb:=k_b k;clear k;refine p_v (.bool false) (fun _=>rfl) (Zb ?_);simp only[pv];iterate 3 go_step
 refine rp ?_;refine p_d 0 r1.r (.pointer v) rfl eL0 ?_;simp only[pv];refine p_l r2.r ?_;simp only[pv];refine p_c 120 func120 #[.pointer v,.agg (Zc A)] (hin _ sb) ?_;intro z1002 k;simp only[pv];replace r1:=k.ro r1;replace r2:=k.ro r2;replace sb:=kk sb k;clear k;refine p_v _ (Zz _ _ rfl B rfl) ?_;refine p_a (Zb ?_);simp only[pv];go_wp2;go_ret;exact⟨rfl,sb⟩
theorem Da (v ab:Option Addr)(n c:Nat)(w:World)(h:n<1∨7<n):
  Calls prog 67 #[.pointer v,.slice ab n c] w fun e w'=>e= .returned (.bool false)/\Below w.heap.size w w':=by
 by_cases h1:n<1
 ·clear h
  go_enter func67,ntmps67
  have sb:=YG w;iterate 2 go_step
  refine rp ?_;refine Ye (by rfl) 25 _ rfl (.pointer v) rfl rfl ?_;intro g2 z0 n0 r2 k;simp only[pv];clear n0;replace sb:=kk sb k;clear k;refine p_v (.bool false) (fun _=>rfl) (Zb ?_);simp only[pv];iterate 4 go_step
  refine rp ?_;refine p_m ?_;simp only[pv];refine p_v _ (n_l ab n c Zm) ?_;refine p_v _ (X4 n 1) ?_;refine p_m ?_;refine p_s ?_;refine p_s ?_;simp only[pv];refine p_s ?_;refine p_k true (.bool true) (Zb ?_);simp only[pv];iterate 4 go_step
  refine rp ?_;refine p_v (.bool false) (fun _=>rfl) (Zb ?_);simp only[pv];go_wp2;go_ret;exact⟨rfl,sb⟩
 ·have h2:7<n:=h.resolve_left h1;clear h
  go_enter func67,ntmps67
  have sb:=YG w;iterate 2 go_step
  refine rp ?_;refine Ye (by rfl) 25 _ rfl (.pointer v) rfl rfl ?_;intro g2 z0 n0 r2 k;simp only[pv];clear n0;replace sb:=kk sb k;clear k;refine p_v (.bool false) (fun _=>rfl) (Zb ?_);simp only[pv];iterate 4 go_step
  refine rp ?_;refine p_m ?_;simp only[pv];refine p_v _ (n_l ab n c Zm) ?_;refine p_v _ (Xe n 1) ?_;refine p_m ?_;refine p_m ?_;simp only[pv];refine p_v _ (n_l ab n c Zm) ?_;refine p_v _ (Gh n 7) ?_;refine p_k false (.bool true) (Zb ?_);simp only[pv];iterate 4 go_step
  refine rp ?_;refine p_v (.bool false) (fun _=>rfl) (Zb ?_);simp only[pv];go_wp2;go_ret;exact⟨rfl,sb⟩
theorem Fx (v ab:Option Addr)(n c:Nat)(C:Nat->Nat)(B:Nat->Bool)(gb ob:Nat)(bcs:Array Value)(tb:TypeId)(w:World)(h1:1<=n)(h7:n<=7)(hna:NatsAt w ab n C gb ob bcs tb)
  (hin: ∀k,k<n-> ∀w',Below w.heap.size w w'->Calls prog 120 #[.pointer v,.agg (Zc (C k))] w' (Rt (.bool (B k)) w')):
  Calls prog 67 #[.pointer v,.slice ab n c] w fun e w'=>e= .returned (.bool (!anB (fun k=> !B k) n))/\Below w.heap.size w w':=by
 have hcn:=fun w' g2 (hb:Below w.heap.size w w') (q2:Row w' g2 #[.pointer v] 25)=>NM ab n c C gb ob bcs tb 119 #[.pointer (some ⟨g2,0,none⟩)] (fun k=> !B k) w' func119 (by kernel_rfl) (by omega) (hna.below hb) (fun k hk w2 h2=>Fw v (C k) g2 (B k) w2 (q2.belowAll h2) (fun w3 h3=>hin k hk w3 (Zk (Zk hb (c_ _) h2) (c_ _) h3)))
 clear hin hna;generalize anB (fun k=> !B k) n=BN at*
 go_enter func67,ntmps67
 have sb:=YG w;iterate 2 go_step
 refine rp ?_;refine Ye (by rfl) 25 _ rfl (.pointer v) rfl rfl ?_;intro g2 z0 n0 r2 k;simp only[pv];clear n0;replace sb:=kk sb k;clear k;refine p_v (.bool false) (fun _=>rfl) (Zb ?_);simp only[pv];iterate 4 go_step
 refine rp ?_;refine p_m ?_;simp only[pv];refine p_v _ (n_l ab n c Zm) ?_;refine p_v _ (Xe n 1) ?_;refine p_m ?_;refine p_m ?_;simp only[pv];refine p_v _ (n_l ab n c Zm) ?_;refine p_v _ (UY n 7) ?_;refine p_k false (.bool false) (Zb ?_);simp only[pv];iterate 7 go_step
 refine rp ?_;refine p_m ?_;simp only[pv];refine p_v (.func (.func 119) #[] #[.pointer (some ⟨g2,0,none⟩)]) (Yr _ _ rfl _ rfl) ?_;simp only[pv];refine p_c 77 func77 #[.slice ab n c,.func (.func 119) #[] #[.pointer (some ⟨g2,0,none⟩)]] (hcn _ g2 sb r2) ?_;intro z3002 k;simp only[pv];replace r2:=k.ro r2;replace sb:=kk sb k;clear k;refine p_v _ (Zz _ _ rfl BN rfl) ?_;refine p_a (Zb ?_);simp only[pv];go_wp2;go_ret;exact⟨rfl,sb⟩
theorem Sg (i:Int)(Y:Nat): ∀j v,(Zc Y).toList[j]?=some v->(shC i Y)[0+1+j]?=some v:=xy (off:=0) (bcs:=shC i Y) (i:=i) (Yi _)
theorem Pf (v ab:Option Addr)(n c Y:Nat)(i:Int)(w:World)(h:i<1∨7<i):
  Calls prog 61 #[.pointer v,.slice ab n c,.agg (shC i Y)] w fun e w'=>e= .returned (.bool false)/\Below w.heap.size w w':=by
 by_cases h1:i<1
 ·clear h
  go_enter func61,ntmps61
  iterate 2 go_step
  refine rp ?_;refine ZO (by rfl) 111 _ rfl (shC i Y) rfl ?_;intro g5 z0 n0 r5 k;simp only[pv];clear n0;have sb:=k_b k;clear k;refine p_v (.bool false) (fun _=>rfl) (Zb ?_);simp only[pv];iterate 4 go_step
  refine rp ?_;refine p_v _ (Zh 111 _ 0 rfl g5 (0) rfl _ bN0 _ rfl 0 aJ0) ?_;simp only[pv];refine p_d 0 r5.r (.int .i64 i) rfl bG0 ?_;simp only[pv];refine p_v _ (YB _ _ _ _ rfl i 1 rfl rfl true (d_ h1)) ?_;refine p_m ?_;refine p_s ?_;refine p_s ?_;refine p_s ?_;simp only[pv];refine p_k true (.bool true) ?_;refine p_m ?_;refine p_s ?_;refine p_s ?_;refine p_s ?_;simp only[pv];refine p_s ?_;refine p_s ?_;refine p_k true (.bool true) (Zb ?_);simp only[pv];iterate 4 go_step
  refine rp ?_;refine p_v (.bool false) (fun _=>rfl) (Zb ?_);simp only[pv];go_wp2;go_ret;exact⟨rfl,sb⟩
 ·have h2:7<i:=h.resolve_left h1;clear h
  go_enter func61,ntmps61
  iterate 2 go_step
  refine rp ?_;refine ZO (by rfl) 111 _ rfl (shC i Y) rfl ?_;intro g5 z0 n0 r5 k;simp only[pv];clear n0;have sb:=k_b k;clear k;refine p_v (.bool false) (fun _=>rfl) (Zb ?_);simp only[pv];iterate 4 go_step
  refine rp ?_;refine p_v _ (Zh 111 _ 0 rfl g5 (0) rfl _ bN0 _ rfl 0 aJ0) ?_;simp only[pv];refine p_d 0 r5.r (.int .i64 i) rfl bG0 ?_;simp only[pv];refine p_v _ (YB _ _ _ _ rfl i 1 rfl rfl false (e_ h1)) ?_;refine p_m ?_;simp only[pv];refine p_v _ (Zh 111 _ 0 rfl g5 (0) rfl _ bN0 _ rfl 0 aJ0) ?_;simp only[pv];refine p_d 0 r5.r (.int .i64 i) rfl bG0 ?_;simp only[pv];refine p_v _ (Yg _ _ _ _ rfl i 7 rfl rfl true (d_ h2)) ?_;refine p_k false (.bool true) ?_;refine p_m ?_;refine p_s ?_;refine p_s ?_;simp only[pv];refine p_s ?_;refine p_s ?_;refine p_s ?_;refine p_k true (.bool true) (Zb ?_);simp only[pv];iterate 4 go_step
  refine rp ?_;refine p_v (.bool false) (fun _=>rfl) (Zb ?_);simp only[pv];go_wp2;go_ret;exact⟨rfl,sb⟩
theorem J7 (v ab:Option Addr)(n c Y:Nat)(i:Int)(w:World)(h1:1<=i)(h7:i<=7)
  (hin: ∀w',Below w.heap.size w w'->Calls prog 79 #[.pointer v,.agg (Zc Y)] w' (Rt (.bool false) w')):
  Calls prog 61 #[.pointer v,.slice ab n c,.agg (shC i Y)] w fun e w'=>e= .returned (.bool false)/\Below w.heap.size w w':=by
 go_enter func61,ntmps61
 iterate 2 go_step
 refine rp ?_;refine ZO (by rfl) 111 _ rfl (shC i Y) rfl ?_;intro g5 z0 n0 r5 k;simp only[pv];clear n0;have sb:=k_b k;clear k;refine p_v (.bool false) (fun _=>rfl) (Zb ?_);simp only[pv];iterate 4 go_step
 refine rp ?_;refine p_v _ (Zh 111 _ 0 rfl g5 (0) rfl _ bN0 _ rfl 0 aJ0) ?_;simp only[pv];refine p_d 0 r5.r (.int .i64 i) rfl bG0 ?_;refine p_v _ (Xe i 1) ?_;refine p_m ?_;simp only[pv];refine p_v _ (Zh 111 _ 0 rfl g5 (0) rfl _ bN0 _ rfl 0 aJ0) ?_;simp only[pv];refine p_d 0 r5.r (.int .i64 i) rfl bG0 ?_;refine p_v _ (UY i 7) ?_;refine p_k false (.bool false) ?_;refine p_m ?_;refine p_m ?_;simp only[pv];refine p_v _ (Zh 111 _ 1 rfl g5 (0) rfl _ bN0 _ rfl 3 bJ0) ?_;simp only[pv];refine ZJ (by rfl) 57 _ rfl _ (0+1) rfl r5.r (Zc Y) (Sg i Y) _ b_ rfl Zd ?_;simp only[pv];refine p_c 79 func79 #[.pointer v,.agg (Zc Y)] (hin _ sb) ?_;intro z1012 k;simp only[pv];replace r5:=k.ro r5;replace sb:=kk sb k;clear k;refine p_v _ (Zz _ _ rfl false rfl) ?_;refine p_k false (.bool true) (Zb ?_);simp only[pv];iterate 4 go_step
 refine rp ?_;refine p_v (.bool false) (fun _=>rfl) (Zb ?_);simp only[pv];go_wp2;go_ret;exact⟨rfl,sb⟩
theorem M3 (v ab:Option Addr)(n c Y S1 S2:Nat)(B:Bool)(i:Int)(w:World)(h1:1<=i)(h7:i<=7)
  (hin: ∀w',Below w.heap.size w w'->Calls prog 79 #[.pointer v,.agg (Zc Y)] w' (Rt (.bool true) w'))
  (hof: ∀w',Below w.heap.size w w'->Calls prog 85 #[.pointer v,.agg (Zc Y)] w' (Rt (.agg (Zc S1)) w'))
  (hat: ∀w',Below w.heap.size w w'->Calls prog 117 #[.pointer v,.slice ab n c,.int .i64 i] w' (Rt (.agg (Zc S2)) w'))
  (hma: ∀w',Below w.heap.size w w'->Calls prog 67 #[.pointer v,.slice ab n c] w' (Rt (.bool B) w')):
  Calls prog 61 #[.pointer v,.slice ab n c,.agg (shC i Y)] w fun e w'=>e= .returned (.bool (decide (S1%2^256=S2%2^256)&&B))/\Below w.heap.size w w':=by
 cases he:decide (S1%2^256=S2%2^256)
 ·show Calls _ _ _ _ fun e w'=>e= .returned (.bool false)/\_
  go_enter func61,ntmps61
  iterate 2 go_step
  refine rp ?_;refine ZO (by rfl) 111 _ rfl (shC i Y) rfl ?_;intro g5 z0 n0 r5 k;simp only[pv];clear n0;have sb:=k_b k;clear k;refine p_v (.bool false) (fun _=>rfl) (Zb ?_);simp only[pv];iterate 4 go_step
  refine rp ?_;refine p_v _ (Zh 111 _ 0 rfl g5 (0) rfl _ bN0 _ rfl 0 aJ0) ?_;simp only[pv];refine p_d 0 r5.r (.int .i64 i) rfl bG0 ?_;refine p_v _ (Xe i 1) ?_;refine p_m ?_;simp only[pv];refine p_v _ (Zh 111 _ 0 rfl g5 (0) rfl _ bN0 _ rfl 0 aJ0) ?_;simp only[pv];refine p_d 0 r5.r (.int .i64 i) rfl bG0 ?_;refine p_v _ (UY i 7) ?_;refine p_k false (.bool false) ?_;refine p_m ?_;refine p_m ?_;simp only[pv];refine p_v _ (Zh 111 _ 1 rfl g5 (0) rfl _ bN0 _ rfl 3 bJ0) ?_;simp only[pv];refine ZJ (by rfl) 57 _ rfl _ (0+1) rfl r5.r (Zc Y) (Sg i Y) _ b_ rfl Zd ?_;simp only[pv];refine p_c 79 func79 #[.pointer v,.agg (Zc Y)] (hin _ sb) ?_;intro z1012 k;simp only[pv];replace r5:=k.ro r5;replace sb:=kk sb k;clear k;refine p_v _ (Zz _ _ rfl true rfl) ?_;refine p_k false (.bool false) (Zb ?_);simp only[pv];iterate 7 go_step
  refine ZD (by kernel_rfl) (by kernel_rfl) ?_;refine q_m ?_;simp only[pv];refine q_v _ (Zh 111 _ 1 rfl g5 (0) rfl _ bN0 _ rfl 3 bJ0) ?_;simp only[pv];refine YJ (by rfl) 57 _ rfl _ (0+1) rfl r5 (Zc Y) (Sg i Y) _ b_ rfl Zd ?_;simp only[pv];refine q_k 85 func85 #[.pointer v,.agg (Zc Y)] (fun w' hb=>hof w' (Zk sb (c_ _) hb)) ?_;refine q_m ?_;refine q_m ?_;simp only[pv];refine q_v _ (Zh 111 _ 0 rfl g5 (0) rfl _ bN0 _ rfl 0 aJ0) ?_;simp only[pv];refine ZS (by rfl) 3 _ rfl _ (0) rfl r5 (.int .i64 i) rfl bG0 ?_;simp only[pv];refine q_k 117 func117 #[.pointer v,.slice ab n c,.int .i64 i] (fun w' hb=>hat w' (Zk sb (c_ _) hb)) ?_;simp only[pv];refine q_v (.bool false) (fun w'=>(ZG _ _ _ rfl S1 S2 rfl rfl w').trans (by rw[he])) ?_;refine q_m ?_;simp only[pv];refine ZI (by rfl) ?_;simp only[pv];refine ZI (by rfl) ?_;simp only[pv];refine ZI (by rfl) ?_;refine q_p false (.bool false) ?_;refine q_a ?_;simp only[pv];refine ZR ?_;intro w3 hqb;replace sb:=b_o sb hqb;clear hqb;go_wp2;go_ret;exact⟨by rfl,sb⟩
 ·show Calls _ _ _ _ fun e w'=>e= .returned (.bool B)/\_
  go_enter func61,ntmps61
  iterate 2 go_step
  refine rp ?_;refine ZO (by rfl) 111 _ rfl (shC i Y) rfl ?_;intro g5 z0 n0 r5 k;simp only[pv];clear n0;have sb:=k_b k;clear k;refine p_v (.bool false) (fun _=>rfl) (Zb ?_);simp only[pv];iterate 4 go_step
  refine rp ?_;refine p_v _ (Zh 111 _ 0 rfl g5 (0) rfl _ bN0 _ rfl 0 aJ0) ?_;simp only[pv];refine p_d 0 r5.r (.int .i64 i) rfl bG0 ?_;refine p_v _ (Xe i 1) ?_;refine p_m ?_;simp only[pv];refine p_v _ (Zh 111 _ 0 rfl g5 (0) rfl _ bN0 _ rfl 0 aJ0) ?_;simp only[pv];refine p_d 0 r5.r (.int .i64 i) rfl bG0 ?_;refine p_v _ (UY i 7) ?_;refine p_k false (.bool false) ?_;refine p_m ?_;refine p_m ?_;simp only[pv];refine p_v _ (Zh 111 _ 1 rfl g5 (0) rfl _ bN0 _ rfl 3 bJ0) ?_;simp only[pv];refine ZJ (by rfl) 57 _ rfl _ (0+1) rfl r5.r (Zc Y) (Sg i Y) _ b_ rfl Zd ?_;simp only[pv];refine p_c 79 func79 #[.pointer v,.agg (Zc Y)] (hin _ sb) ?_;intro z1012 k;simp only[pv];replace r5:=k.ro r5;replace sb:=kk sb k;clear k;refine p_v _ (Zz _ _ rfl true rfl) ?_;refine p_k false (.bool false) (Zb ?_);simp only[pv];iterate 7 go_step
  refine ZD (by kernel_rfl) (by kernel_rfl) ?_;refine q_m ?_;simp only[pv];refine q_v _ (Zh 111 _ 1 rfl g5 (0) rfl _ bN0 _ rfl 3 bJ0) ?_;simp only[pv];refine YJ (by rfl) 57 _ rfl _ (0+1) rfl r5 (Zc Y) (Sg i Y) _ b_ rfl Zd ?_;simp only[pv];refine q_k 85 func85 #[.pointer v,.agg (Zc Y)] (fun w' hb=>hof w' (Zk sb (c_ _) hb)) ?_;refine q_m ?_;refine q_m ?_;simp only[pv];refine q_v _ (Zh 111 _ 0 rfl g5 (0) rfl _ bN0 _ rfl 0 aJ0) ?_;simp only[pv];refine ZS (by rfl) 3 _ rfl _ (0) rfl r5 (.int .i64 i) rfl bG0 ?_;simp only[pv];refine q_k 117 func117 #[.pointer v,.slice ab n c,.int .i64 i] (fun w' hb=>hat w' (Zk sb (c_ _) hb)) ?_;simp only[pv];refine q_v (.bool true) (fun w'=>(ZG _ _ _ rfl S1 S2 rfl rfl w').trans (by rw[he])) ?_;refine q_m ?_;refine q_m ?_;refine q_m ?_;simp only[pv];refine q_k 67 func67 #[.pointer v,.slice ab n c] (fun w' hb=>hma w' (Zk sb (c_ _) hb)) ?_;refine q_p true (.bool B) ?_;refine q_a ?_;simp only[pv];refine ZR ?_;intro w3 hqb;replace sb:=b_o sb hqb;clear hqb;go_wp2;go_ret;exact⟨by rfl,sb⟩
theorem Pg:(prog.info? 30).map (·.size)=some 1:=by kernel_rfl
def Zx (I:Nat->Int):Nat->Int
 |0=>0
 |j+1=>I j
def oOf (n:Nat):Nat:=if n+1=1 then 0 else 0+1*4
structure GF (P Q G:Nat):Prop where
 pP:IsP P
 pQ:IsP Q
 rP:RgQ P
 rQ:FdQ Q
 lt:G<P
 n0:G≠0
 n1:G≠1
 ord:G^Q%P=1
 big:512<=Q
theorem zW {n:Nat}{N:Nat->Nat}{A:Nat->Int}{G:Nat}(h:grN n N A G=true)(hl: ∀i,i<n->N i<2^256):GF (N (n-1)) (N (n-2)) G:=by
 obtain⟨h2,_,h5,h0,h1,hG,ho⟩:=(P5 n N A G).1 h;obtain⟨pP,pQ⟩:=MF h;exact⟨pP,pQ,⟨hl _ (by omega),RI pP (by omega),pP.1⟩,⟨⟨hl _ (by omega),RI pQ (by omega),pQ.1⟩,pQ⟩,hG,h0,h1,ho,h5⟩
def cAt (P:Nat)(C:Nat->Nat)(n:Nat)(i:Int):Nat:=if 0<=i/\i<=7/\n<=7 then prd (fun j=>C j^(i.toNat^j)) n%P else 0
def Db (P Q:Nat)(C:Nat->Nat)(n:Nat):Bool:=decide (1<=n)&&decide (n<=7)&& !anB (fun k=> !AK P Q (C k)) n
def BM (P Q G:Nat)(C:Nat->Nat)(n:Nat)(i:Int)(Y:Nat):Bool:=decide (1<=i)&&decide (i<=7)&&decide (Y<Q)&&(decide (G^Y%P=cAt P C n i)&&Db P Q C n)
theorem zX {P:Nat}(h:2<=P)(C:Nat->Nat)(n:Nat)(i:Int):cAt P C n i<P:=by
 unfold cAt
 split
 ·exact m_ _ (by omega)
 ·omega
section
variable {Q:Nat}[NeZero Q]{g gr gf P G:Nat}{w:World}{ab:Option Addr}{n c:Nat}{C:Nat->Nat}{gb ob:Nat}{bcs:Array Value}{tb:TypeId}
theorem BO (f:GF P Q G)(h:GrpAt w g gr gf P Q G)(hna:NatsAt w ab n C gb ob bcs tb)(i:Int):
  Calls prog 117 #[.pointer (some ⟨g,0,none⟩),.slice ab n c,.int .i64 i] w (Rt (.agg (Zc (cAt P C n i))) w):=by
 by_cases hh:0<=i/\i<=7/\n<=7
 ·obtain⟨k,rfl⟩: ∃k:Nat,i=k:=⟨i.toNat,by omega⟩
  have e:cAt P C n (k:Nat)=prd (fun j=>C j^(k^j)) n%P:=by
   unfold cAt;rw[j_ hh,q_]
  rw[e];refine BK _ ab n c k _ 0 w hh.2.2 (by omega) fun w' gE hb rE=>?_
  exact JX g gr gf P Q G n c n ab (some ⟨gE,0,none⟩) C (fun j=>k^j) gb ob gE 0 bcs _ tb _ w' (by omega) (hna.below hb) (YA rE (fun j hj=>E_ (xH (show k<=7 by omega) (show j<=7 by omega)) (by decide))) f.rP (h.below hb)
 ·have e:cAt P C n i=0:=i_ hh;rw[e];exact xG _ ab n c i w (by omega)
theorem NN (f:GF P Q G)(h:GrpAt w g gr gf P Q G)(hna:NatsAt w ab n C gb ob bcs tb):
  Calls prog 67 #[.pointer (some ⟨g,0,none⟩),.slice ab n c] w (Rt (.bool (Db P Q C n)) w):=by
 unfold Db;by_cases h1:1<=n
 ·by_cases h7:n<=7
  ·rw[d_ h1,d_ h7,bD0,bD0];exact Fx _ ab n c C _ gb ob bcs tb w h1 h7 hna fun k hk w' hb=>zS (C k) g gr gf P Q G w' (hna.lt k hk) f.rQ.m f.rP (h.below hb)
  ·rw[e_ h7,Bool.and_false,bI0];exact Da _ ab n c w (by omega)
 ·rw[e_ h1,bI0,bI0];exact Da _ ab n c w (by omega)
theorem Fy (f:GF P Q G)(h:GrpAt w g gr gf P Q G)(hna:NatsAt w ab n C gb ob bcs tb)(i:Int)(Y:Nat)(hY:Y<2^256):
  Calls prog 61 #[.pointer (some ⟨g,0,none⟩),.slice ab n c,.agg (shC i Y)] w (Rt (.bool (BM P Q G C n i Y)) w):=by
 unfold BM;by_cases h1:1<=i
 ·by_cases h7:i<=7
  ·rw[d_ h1,d_ h7,bD0,bD0];have hin:=fun w' (hb:Below w.heap.size w w')=>Jp Y g gr gf P Q G w' hY f.rQ (h.below hb)
   by_cases hq:Y<Q
   ·rw[d_ hq]at hin ⊢;rw[bD0];have hc:=M3 _ ab n c Y (G^Y%P) (cAt P C n i) (Db P Q C n) i w h1 h7 hin (fun w' hb=>E6 Y g gr gf P Q G w' hY (E_ f.lt f.rP.m) f.rP (h.below hb)) (fun w' hb=>BO f (h.below hb) (hna.below hb) i) (fun w' hb=>NN f (h.below hb) (hna.below hb));rw[g_ (E_ (m_ _ (show 0<P by have:=f.rP.two;omega)) f.rP.m),g_ (E_ (zX f.rP.two C n i) f.rP.m)]at hc;exact hc
   ·rw[e_ hq]at hin ⊢;rw[bI0];exact J7 _ ab n c Y i w h1 h7 hin
  ·rw[e_ h7,Bool.and_false,bI0,bI0];exact Pf _ ab n c Y i w (by omega)
 ·rw[e_ h1,bI0,bI0,bI0];exact Pf _ ab n c Y i w (by omega)
def Zn (I:Nat->Nat):Nat->Nat
 |0=>0
 |j+1=>I j
def frS (P Q G A:Nat)(W:Nat->Nat->Nat)(Y:Nat->Nat)(n j:Nat):Nat:=A^W j 0*G^EN (fun i=>W j (i+1)) Y Q n%P
variable {A:Nat}{I:Nat->Int}{Y:Nat->Nat}
theorem xI (f:GF P Q G){J:Nat->Nat}{m:Nat}(hI:apB 0 (fun k=>((J k:Nat):Int)) m=true)(i j:Nat)(hi:i<m)(hj:j<m)(hne:i≠j):(fi (J i):Fin Q)≠fi (J j):=fun e=>by
 obtain⟨h1,h2⟩:=(JS _ _ _).1 hI;have hb:=f.big;have a1:((J i:Nat):Int)<=7:=(h1 i hi).2;have a2:((J j:Nat):Int)<=7:=(h1 j hj).2;have e2:=ES e (by omega) (by omega);rcases Nat.lt_or_gt_of_ne hne with h|h
 ·exact h2 i j h hj (by rw[e2])
 ·exact h2 j i h hi (by rw[e2])
theorem Dc (a b:Nat->Nat)(q:Nat): ∀n,EN a b q n=smA (fun i=>a i*b i) n%q
 |0=>(eN0 q).symm
 |n+1=>by
  show(EN a b q n+a n*b n%q)%q=(smA (fun i=>a i*b i) n+a n*b n)%q
  rw[Dc a b q n,<-eR0]
theorem Dd (f:GF P Q G)(L:List (Fin Q))(n:Nat)(h1:1<=n)(h7:n<=7)(hl:L.length<=n)(i Y:Nat)(hi1:1<=i)(hi7:i<=7):BM P Q G (fun k=>G^(pco L k).val%P) n (i:Nat) Y=decide (Y=(pev (fi i) L).val):=by
 have hm:Db P Q (fun k=>G^(pco L k).val%P) n=true:=by
  unfold Db;rw[d_ h1,d_ h7,bD0,bD0]
  have:anB (fun k=> !AK P Q (G^(pco L k).val%P)) n=false:=eK0.2 fun h=>by
   obtain⟨k,_,hk⟩:=(Vm _ _).1 h;rw[BE f.rP.two f.ord]at hk;cases hk
  rw[this];rfl
 have ha:cAt P (fun k=>G^(pco L k).val%P) n (i:Nat)=prd (fun j=>(G^(pco L j).val%P)^(i^j)) n%P:=by
  unfold cAt;rw[j_ ⟨by omega,by omega,h7⟩,q_]
 have hL: ∀k,pco (fl n (fun k=>(pco L k).val):List (Fin Q)) k=pco L k:=fun k=>by
  by_cases hk:k<n
  ·rw[UJ _ _ _ hk,On]
  ·rw[Uo _ _ _ (by omega),Wp _ _ (by omega)]
 unfold BM;rw[hm,ha,d_ (show(1:Int)<=(i:Nat) by omega),d_ (show((i:Nat):Int)<=7 by omega),bD0,bD0,Bool.and_true];have hv:(pev (fi i) L).val<Q:=(pev (fi i) L).isLt;by_cases hy:Y<Q
 ·rw[d_ hy,bD0];have:=co_holds (q:=Q) f.pP f.pQ f.n0 f.n1 f.lt f.ord (fun k=>(pco L k).val) n i Y hy;rw[TR _ _ hL]at this;exact cK0.2 this
 ·rw[e_ hy,bI0];exact(e_ (by omega)).symm
end
theorem J8 {w:World}{g g':Nat}{c c':Array Value}{t t':TypeId}(h:Row w g c t)(h':Row w g' c' t')(ht:t≠t'):g≠g':=fun e=>by
 subst e;have:=aI0 (h.symm.trans h');simp only[Obj.cells.injEq]at this;exact ht this.2.1
theorem BP {P:Program}{fn:Func}{R:Ending->World->Prop}{a:Act}{w:World}{u p x:Tmp}{ty:TypeId}(hf:fn.results=#[.tmp u,.cell p ty,.tmp x])(v:Value)(hv:a.tmps.getD u undef=v)(g:Nat)(hp:a.tmps.getD p undef= .pointer (some ⟨g,0,none⟩))
  {t:TypeId}{cs:Array Value}(hr:Row w g cs t)(fs:Array Field)(hu:P.underlying ty=some (.struct fs))(hi:(P.info? ty).map (·.size)=some cs.size)(y:Value)(hy:a.tmps.getD x undef=y)(hd:a.defers=[])
  (h:R (.returned (.tuple #[v,.agg cs,y])) w):bodyPost P fn R .ret a w:=by
 refine eM0 (v:=.tuple #[v,.agg cs,y]) ?_ hd h;have h1:=cB0 w g t ty cs (0,0) _ hr hu rfl hi;rw[cU0]at hp hv hy;simp[results,hf,hp,hv,hy,p_,asAddr,h1]
theorem smF (a0:Int):GF (smP a0) (smQ a0) (smG a0)/\smP a0<4611686018427387904/\smQ a0<4611686018427387904:=by
 obtain⟨his,hlt,hG,hq62⟩:=EO (pkB a0);exact⟨zW his hlt,(zT (pkB a0)).1,hq62⟩
theorem R3:GF 1055500680322183127 1966023127 leG:=zW Nm zl
def coF:List (Fin 1966023127):=[fi 5,fi 2]
end Go.Proofs.YtnagnkhbamhfmaaGreatDoor
