import Derived.Test.YtcdahmommonnfaaGreatDoorGL
namespace Go.Proofs.YtcdahmommonnfaaGreatDoor
set_option linter.all false
open Go.Proofs.Tryz
open Go.RowKit
def nsC (n:Nat)(f:Nat->Nat):Array Value:=Array.ofFn (n:=4*n) fun i=>.int .u64 (lm (f (i/4)) (i%4):Nat)
theorem Z7 (n:Nat)(f:Nat->Nat):(nsC n f).size=4*n:=by simp[nsC]
theorem Y8 (n:Nat)(f:Nat->Nat)(i:Nat)(h:i<4*n):(nsC n f)[i]?=some (.int .u64 (lm (f (i/4)) (i%4):Nat)):=by simp[nsC,h]
theorem XX (n:Nat)(f:Nat->Nat)(k:Nat)(h:k<n)(off:Nat)(ho:off=4*k): ∀j v,(Zc (f k)).toList[j]?=some v->(nsC n f)[off+j]?=some v:=by
 subst ho;refine Uj ?_ ?_ ?_ ?_
 ·rw[Y8 n f _ (by omega),show(4*k+0)/4=k by omega,show(4*k+0)%4=0 by omega]
 ·rw[Y8 n f _ (by omega),show(4*k+1)/4=k by omega,show(4*k+1)%4=1 by omega]
 ·rw[Y8 n f _ (by omega),show(4*k+2)/4=k by omega,show(4*k+2)%4=2 by omega]
 ·rw[Y8 n f _ (by omega),show(4*k+3)/4=k by omega,show(4*k+3)%4=3 by omega]
theorem XP (n:Nat)(f g:Nat->Nat)(h: ∀k,k<n->f k=g k):nsC n f=nsC n g:=by
 apply Array.ext_getElem?;intro i;by_cases hi:i<4*n
 ·rw[Y8 n f i hi,Y8 n g i hi,h _ (by omega)]
 ·rw[Array.getElem?_eq_none (by rw[Z7];omega),Array.getElem?_eq_none (by rw[Z7];omega)]
theorem W8 (n:Nat)(f g:Nat->Nat)(k:Nat)(h:k<n)(off:Nat)(ho:off=4*k)(N:Nat)(hg: ∀j,j<n->g j=if j=k then N else f j):Sn (nsC n f) off (Zc N).toList=nsC n g:=by
 subst ho;apply Array.ext_getElem?;intro i;rw[VX _ _ _ _ (by rw[Z7,SN];simp;omega)];have hl:(Zc N).toList.length=4:=rfl;rw[hl];by_cases hi:i<4*n
 ·rw[Y8 n g i hi,hg _ (by omega)];by_cases e:i/4=k
  ·rw[if_pos (by omega),if_pos e];have hj:i-4*k<4:=by omega
   rw[show i%4=i-4*k by omega,Array.getElem?_toList];exact Yi N _ hj
  ·rw[if_neg (by omega),if_neg e,Y8 n f i hi]
 ·rw[if_neg (by omega),Array.getElem?_eq_none (by rw[Z7];omega),Array.getElem?_eq_none (by rw[Z7];omega)]
def isC (n:Nat)(u:Nat->Nat):Array Value:=Array.ofFn (n:=n) fun i=>.int .i64 (u i:Nat)
theorem Xh (n:Nat)(u:Nat->Nat):(isC n u).size=n:=by simp[isC]
theorem XB (n:Nat)(u:Nat->Nat)(i:Nat)(h:i<n):(isC n u)[i]?=some (.int .i64 (u i:Nat)):=by simp[isC,h]
theorem R8 (n:Nat)(u v:Nat->Nat)(k N:Nat)(hv: ∀j,j<n->v j=if j=k then N else u j):(isC n u).setIfInBounds k (.int .i64 (N:Nat))=isC n v:=by
 apply Array.ext_getElem?;intro i;by_cases hi:i<n
 ·rw[Array.getElem?_setIfInBounds,XB n v i hi,hv i hi];by_cases e:k=i
  ·subst e;simp[Xh,hi]
  ·rw[if_neg e,XB n u i hi,if_neg (fun x=>e x.symm)]
 ·rw[Array.getElem?_eq_none (by simp[Xh];omega),Array.getElem?_eq_none (by rw[Xh];omega)]
theorem G3 (n m:Nat)(z:Array Value)(hz: ∀i,i<z.size->z[i]! = .int .u64 0)(hs:0<z.size)(hm:m=4*n):madeCells z m=nsC n fun _=>0:=by
 subst hm;apply Array.ext_getElem?;intro i;by_cases hi:i<4*n
 ·rw[Y8 n _ i hi];unfold madeCells;rw[Array.getElem?_map,Array.getElem?_range,if_pos hi,Option.map_some,hz _ (Nat.mod_lt _ hs)];simp[lm]
 ·rw[Array.getElem?_eq_none (by rw[size_madeCells];omega),Array.getElem?_eq_none (by rw[Z7];omega)]
theorem G4 (n:Nat):madeCells #[.int .i64 0] n=isC n fun _=>0:=by
 apply Array.ext_getElem?;intro i;by_cases hi:i<n
 ·rw[XB n _ i hi];unfold madeCells;rw[Array.getElem?_map,Array.getElem?_range,if_pos hi,Option.map_some];simp[Nat.mod_one]
 ·rw[Array.getElem?_eq_none (by rw[size_madeCells];omega),Array.getElem?_eq_none (by rw[Xh];omega)]
def fpw (M b j:Nat):Nat:=b^j*2^256%M
def kfU (M:Nat)(b u:Nat->Nat)(i:Nat):Nat:=if 1<=i%16/\i%16<=u (i/16)then fpw M (b (i/16)) (i%16)else 0
theorem U7 (M:Nat)(b u:Nat->Nat)(k j:Nat)(h1:1<=j)(h2:j<=u k)(h3:j<16):kfU M b u (16*k+j)=fpw M (b k) j:=by
 unfold kfU;rw[show(16*k+j)%16=j by omega,show(16*k+j)/16=k by omega,if_pos ⟨h1,h2⟩]
theorem TO (M:Nat)(b u:Nat->Nat)(k m:Nat)(hm:m<15)(hu:u k=m)(i:Nat):kfU M b (upd u k (m+1)) i=if i=16*k+(m+1)then fpw M (b k) (m+1)else kfU M b u i:=by
 unfold kfU;by_cases e:i/16=k
 ·subst e;rw[YY];by_cases e2:i=16*(i/16)+(m+1)
  ·rw[if_pos e2,show i%16=m+1 by omega,if_pos ⟨by omega,Nat.le_refl _⟩]
  ·rw[if_neg e2,hu];by_cases e3:1<=i%16/\i%16<=m
   ·rw[if_pos e3,if_pos ⟨e3.1,by omega⟩]
   ·rw[if_neg e3,if_neg (by omega)]
 ·rw[Sy u _ e,if_neg (show ¬i=16*k+(m+1) by omega)]
theorem U8 (M b j:Nat)(h:2<=M):fpw M b j<M:=Nat.mod_lt _ (by omega)
theorem Pf (M b j:Nat)(h:M%2=1)(h2:2<=M):mt (fpw M b j) (fpw M b 1) M=fpw M b (j+1):=by
 have e:b^(j+1)*2^256=b^j*2^256*b:=by rw[Nat.pow_succ b j,Nat.mul_assoc,Nat.mul_comm b,<-Nat.mul_assoc]
 unfold fpw;rw[Nat.pow_one,Ui _ _ _ h h2,Nat.mod_mul_mod,e]
structure PwH (w:World)(n M:Nat)(b:Nat->Nat)(g0 g2 g3 g4 g5 gu gq gb ob cb:Nat)(bcs:Array Value)(tb:TypeId):Prop where
 ring:Row w g0 (rgC M (miL M) (Ww M) (sqL M)) 157
 u:Row w g2 #[.slice (some ⟨gu,0,none⟩) n n] 62
 r:Row w g3 #[.pointer (some ⟨g0,0,none⟩)] 109
 bv:Row w g4 #[.slice (some ⟨gb,ob,none⟩) n cb] 54
 k:Row w g5 #[.slice (some ⟨gq,0,none⟩) n n] 237
 bs:WD w gb bcs tb
 at': ∀i,i<n-> ∀j v,(Zc (b i)).toList[j]?=some v->bcs[ob+i*4+j]?=some v
theorem PwH.on {w w2:World}{n M:Nat}{b:Nat->Nat}{g0 g2 g3 g4 g5 gu gq gb ob cb:Nat}{bcs:Array Value}{tb:TypeId}(h:PwH w n M b g0 g2 g3 g4 g5 gu gq gb ob cb bcs tb){S:List Nat}(hk:Kept S w w2)
  (hS:g0∉S/\g2∉S/\g3∉S/\g4∉S/\g5∉S/\gb∉S):PwH w2 n M b g0 g2 g3 g4 g5 gu gq gb ob cb bcs tb:=
 ⟨hk.row h.ring hS.1,hk.row h.u hS.2.1,hk.row h.r hS.2.2.1,hk.row h.bv hS.2.2.2.1,hk.row h.k hS.2.2.2.2.1,hk.rowR h.bs hS.2.2.2.2.2,h.at'⟩
theorem ZU (w:World):(sizeOf 39).run prog w= .ok 4 w:=sizeOf39 w
theorem N6 (A M:Nat)(h:M%2=1)(h2:2<=M):mt A (sqL M) M=fpw M A 1:=by
 unfold sqL Ww fpw;rw[Nat.pow_one];have e:2^256%M*(2^256%M)%M=2^256*2^256%M:=by rw[<-Nat.mul_mod]
 rw[e,Ui A (2^256) M h h2]
theorem YN {x a b:Nat}(h:x∉[a,b]):x∉[b]:=fun e=>h (List.mem_cons_of_mem _ e)
theorem YO {x a b:Nat}(h:x∉[a,b]):x∉[a]:=fun e=>h (by rw[List.mem_singleton.1 e];exact List.mem_cons_self ..)
structure PwL (wr w:World)(n M:Nat)(b u:Nat->Nat)(g0 g2 g3 g4 g5 g8 gu gq gb ob cb:Nat)(bcs:Array Value)(tb:TypeId):Prop where
 h:PwH wr n M b g0 g2 g3 g4 g5 gu gq gb ob cb bcs tb
 ru:Row wr gu (isC n u) 3
 rk:Row wr gq (nsC (16*n) (kfU M b u)) 238
 r8:Row wr g8 (Zc 0) 39
 kept:Kept [gu,gq] w wr
theorem N7 (u:Nat->Nat)(k x y:Nat):upd (upd u k x) k y=upd u k y:=by
 funext j
 unfold upd;by_cases e:j=k
 ·rw[if_pos e,if_pos e]
 ·rw[if_neg e,if_neg e,if_neg e]
theorem Hc (u:Nat->Nat)(k x y:Nat)(j:Nat):upd u k y j=if j=k then y else upd u k x j:=by
 unfold upd;by_cases e:j=k
 ·rw[if_pos e,if_pos e]
 ·rw[if_neg e,if_neg e,if_neg e]
theorem XG (w:World):(sizeOf 238).run prog w= .ok 64 w:=sizeOf238 w
set_option maxRecDepth 100000 in
set_option maxHeartbeats 4000000 in
theorem SO (n k d M:Nat)(u b:Nat->Nat)(g0 g2 g3 g4 g5 gu gq gb ob cb:Nat)(bcs:Array Value)(tb:TypeId)(w:World)(hk:k<n)(hd1:1<=d)(hd:d<=15)(hu:u k<=15)(hM:M<2^256)(ho:M%2=1)(h2:2<=M)(hb:b k<2^256)(hn:n<=64)
  (hH:PwH w n M b g0 g2 g3 g4 g5 gu gq gb ob cb bcs tb)(ru:Row w gu (isC n u) 3)(rk:Row w gq (nsC (16*n) (kfU M b u)) 238)
  (hS:g0∉[gu,gq]/\g2∉[gu,gq]/\g3∉[gu,gq]/\g4∉[gu,gq]/\g5∉[gu,gq]/\gb∉[gu,gq])(hne:gu≠gq):
  Calls prog 180 #[.int .i64 k,.int .i64 d,.pointer (some ⟨g2,0,none⟩),.pointer (some ⟨g3,0,none⟩),.pointer (some ⟨g4,0,none⟩),.pointer (some ⟨g5,0,none⟩)] w fun e w'=>
   e= .returned (.agg (Zc (fpw M (b k) d)))/\Row w' gu (isC n (upd u k (max (u k) d))) 3/\Row w' gq (nsC (16*n) (kfU M b (upd u k (max (u k) d)))) 238/\Kept [gu,gq] w w':=by
 have HH:Hid (k<n/\1<=d/\d<=15/\u k<=15/\M<2^256/\M%2=1/\2<=M/\b k<2^256/\n<=64/\gu≠gq):=⟨hk,hd1,hd,hu,hM,ho,h2,hb,hn,hne⟩;have HS:Hid (g0∉[gu,gq]/\g2∉[gu,gq]/\g3∉[gu,gq]/\g4∉[gu,gq]/\g5∉[gu,gq]/\gb∉[gu,gq]):=hS
 go_enter func180,ntmps180
 iterate 2 go_step
 apply Zd [] [_] trivial List.nodup_nil
 ·intro p;refine m_n ?_;simp only[pv];refine Zi ?_;intro w1 hkw hrw hnew _;have r8:Row w1 (p 0) (Zc 0) 39:=hrw 1 (39,Zc 0) rfl;have n8:=hnew 0 rfl;have hK:Kept [gu,gq] w w1:=(Kept.refl _ w).trans hkw (by simp);have l5:=hH.k.lt;have lu:=ru.lt;have lk:=rk.lt;replace hH:=hH.on hkw (by simp);replace ru:=hkw.row ru (by simp);replace rk:=hkw.row rk (by simp);clear hkw hrw hnew;generalize p 0=g8 at*;obtain⟨hk',hd1',hd',hu',hM',ho',h2',hb',hn',hne'⟩:=HH.out;obtain⟨s0,s2,s3,s4,s5,sB⟩:=HS.out;have cu:=XB n u k hk;have d8u:gu≠g8:=by omega
  have d8k:gq≠g8:=by omega
  by_cases hu0:u k=0
  ·iterate 4 go_step
   apply Zd [] [_,_,_,_,_] trivial List.nodup_nil
   ·intro p;refine ZB 62 _ rfl _ (0) rfl hH.u (by simp<;>omega) (.slice (some ⟨gu,0,none⟩) n n) rfl isAgg62 ?_;refine m_m ?_;simp only[pv];refine Zg (.pointer (some ⟨gu,k,none⟩)) (fun w'=>(Zs 62 _ _ rfl gu 0 n n rfl k rfl hk _ underlying62 1 sizeOf3 w').trans (by rw[Nat.zero_add,Nat.mul_one])) ?_;simp only[pv];refine ZB 3 _ rfl _ (k) rfl ru (by simp<;>omega) (.int .i64 (u k:Nat)) cu isAgg3 ?_;simp only[pv];refine Zg _ (Zq .i64 _ _ _ _ rfl (u k:Nat) 0 rfl rfl true (by rw[hu0];rfl)) ?_;simp only[pv];refine Zi ?_;intro w2 hkw _ _ _;replace hH:=hH.on hkw (by simp);replace ru:=hkw.row ru (by simp);replace rk:=hkw.row rk (by simp);replace r8:=hkw.row r8 (by simp);replace hK:=hK.trans hkw (by simp);clear hkw;have q0:=YN s0;have q2:=YN s2;have q3:=YN s3;have q4:=YN s4;have q5:=YN s5;have qB:=YN sB;have p0:=YO s0;have p2:=YO s2;have p3:=YO s3;have p4:=YO s4;have p5:=YO s5;have pB:=YO sB;have hmf:=YQ M ho;have hsq:sqL M<M:=Nat.mod_lt _ (by omega);have hfo:=fun w'=>Pe (b k) M (miL M) (Ww M) (sqL M) g0 w' hb hM ho h2 hmf.2.2 hmf.2.1 hsq
    rw[N6 (b k) M ho h2]at hfo
    have hput:Sn (nsC (16*n) (kfU M b u)) (0+k*64+1*4) (Zc (fpw M (b k) 1)).toList=nsC (16*n) (kfU M b (upd u k 1)):=by
     refine W8 (16*n) _ _ (16*k+1) (by omega) _ (by omega) _ fun j _=>?_
     exact TO M b u k 0 (by omega) hu0 j
    have hiu:(isC n u).setIfInBounds k (.int .i64 ((1:Nat):Int))=isC n (upd u k 1):=R8 n _ _ k 1 fun j _=>rfl
    have sz:(0+k*64+1*4)+4<=(nsC (16*n) (kfU M b u)).size:=by rw[Z7];omega
    iterate 4 go_step
    apply Zo (by kernel_rfl) [(gq,238,nsC (16*n) (kfU M b u))] [_,_,_,_,_,_,_,_,_,_,_] ⟨rk,trivial⟩ (by simp<;>omega)
    ·intro p;refine ZB 237 _ rfl _ 0 rfl hH.k (by exact q5) (.slice (some ⟨gq,0,none⟩) n n) rfl isAgg237 ?_;refine m_m ?_;simp only[pv];refine ZB 109 _ rfl _ 0 rfl hH.r (by exact q3) (.pointer (some ⟨g0,0,none⟩)) rfl isAgg109 ?_;simp only[pv];refine ZB 54 _ rfl _ 0 rfl hH.bv (by exact q4) (.slice (some ⟨gb,ob,none⟩) n cb) rfl isAgg54 ?_;refine m_m ?_;simp only[pv];refine m_x k hk underlying54 ZU ?_;simp only[pv];refine Xf 39 _ rfl gb (ob+k*4) rfl hH.bs (by exact qB) (Zc (b k)) (hH.at' k hk) _ underlying39 rfl Ze ?_;simp only[pv];refine m_k 181 func181 #[.pointer (some ⟨g0,0,none⟩),.agg (Zc (b k))] (fun w' hk'=>hfo w' (hk'.row hH.ring q0)) ?_;simp only[pv];refine m_x k hk underlying237 XG ?_;simp only[pv];refine Zg _ (ZE 238 _ _ rfl gq (0+k*64) rfl 1 16 rfl (by omega) _ underlying238 4 ZU) ?_;simp only[pv];refine RX 0 39 _ _ rfl (0+k*64+1*4) rfl rfl (Zc (fpw M (b k) 1)) rfl (by exact Ze) sz (ZA _) (nsC (16*n) (kfU M b (upd u k 1))) hput ?_;simp only[Act.put];refine Zi ?_;intro w6 hkw hrw _ _;have zk:Row w6 gq (nsC (16*n) (kfU M b (upd u k 1))) 238:=hrw 0 (238,nsC (16*n) (kfU M b (upd u k 1))) rfl;have h6:=hH.on hkw ⟨q0,q2,q3,q4,q5,qB⟩;have zu:=hkw.row ru (by simp;exact hne);have z8:=hkw.row r8 (by simp;omega);have zK:=hK.trans hkw (by simp);clear hkw hrw hH hfo hput sz hmf hsq ru rk r8 hK;iterate 2 go_step
     apply Zd [(gu,3,isC n u)] [_,_,_,_] ⟨zu,trivial⟩ (by simp<;>omega)
     ·intro p;refine ZB 62 _ rfl _ 0 rfl h6.u (by exact p2) (.slice (some ⟨gu,0,none⟩) n n) rfl isAgg62 ?_;refine m_m ?_;simp only[pv];refine Zg (.pointer (some ⟨gu,k,none⟩)) (fun w'=>(Zs 62 _ _ rfl gu 0 n n rfl k rfl hk _ underlying62 1 sizeOf3 w').trans (by rw[Nat.zero_add,Nat.mul_one])) ?_;simp only[pv];refine W3 0 3 _ _ rfl (k) rfl rfl .i64 (((1:Nat):Int)) rfl sizeOf3 (by rw[Xh];exact hk) (isC n (upd u k 1)) hiu ?_;simp only[Act.put];refine Zi ?_;intro w7 hkw hrw _ _;have yu:Row w7 gu (isC n (upd u k 1)) 3:=hrw 0 (3,isC n (upd u k 1)) rfl;have hL0:PwL w7 w n M b (upd u k 1) g0 g2 g3 g4 g5 g8 gu gq gb ob cb bcs tb:=⟨h6.on hkw ⟨p0,p2,p3,p4,p5,pB⟩,yu,hkw.row zk (by simp;exact fun e=>hne e.symm),hkw.row z8 (by simp;omega),zK.trans hkw (by simp)⟩;clear hkw hrw yu h6 zu zk z8 zK cu hiu hk hM ho h2 hb hn hne hS hk' hM' ho' h2' hb' hn' hne' s0 s2 s3 s4 s5 sB lu lk q0 q2 q3 q4 q5 qB p0 p2 p3 p4 p5 pB
      go_wp2_with fail
      go_loopg [] 15 (fun g wr=> ∃m:Nat,1<=m/\m<=15/\max m d=max (u k) d/\d-m<=g/\PwL wr w n M b (upd u k m) g0 g2 g3 g4 g5 g8 gu gq gb ob cb bcs tb)
      case atStart=>exact⟨1,by omega,by omega,by omega,by omega,hL0⟩
      case round=>
       obtain⟨m,hm1,hm2,hmx,hmg,hL⟩:=hrel;obtain⟨hk,hd1,hd,hu,hM,ho,h2,hb,hn,hne⟩:=HH.out;obtain⟨s0,s2,s3,s4,s5,sB⟩:=HS.out;clear hL0;have q0:=YN s0;have q2:=YN s2;have q3:=YN s3;have q4:=YN s4;have q5:=YN s5;have qB:=YN sB;have p0:=YO s0;have p2:=YO s2;have p3:=YO s3;have p4:=YO s4;have p5:=YO s5;have pB:=YO sB;have cm:(isC n (upd u k m))[k]?=some (.int .i64 (m:Nat)):=(XB n (upd u k m) k hk).trans (by rw[YY]);iterate 2 go_step
       apply Zd [] [_,_,_,_,_,_] trivial List.nodup_nil
       ·intro p;refine ZB 62 _ rfl _ (0) rfl hL.h.u (by simp<;>omega) (.slice (some ⟨gu,0,none⟩) n n) rfl isAgg62 ?_;refine m_m ?_;simp only[pv];refine Zg (.pointer (some ⟨gu,k,none⟩)) (fun w'=>(Zs 62 _ _ rfl gu 0 n n rfl k rfl hk _ underlying62 1 sizeOf3 w').trans (by rw[Nat.zero_add,Nat.mul_one])) ?_;simp only[pv];refine ZB 3 _ rfl _ (k) rfl hL.ru (by simp<;>omega) (.int .i64 (m:Nat)) (cm) isAgg3 ?_;refine m_m ?_;simp only[pv];refine Zg _ (Yv _ _ _ _ rfl m d rfl rfl) ?_;simp only[pv];refine Zi ?_;intro w5 hkw _ _ _;replace hL:PwL w5 w n M b (upd u k m) g0 g2 g3 g4 g5 g8 gu gq gb ob cb bcs tb:=⟨hL.h.on hkw (by simp),hkw.row hL.ru (by simp),hkw.row hL.rk (by simp),hkw.row hL.r8 (by simp),hL.kept.trans hkw (by simp)⟩;clear hkw;by_cases hlt:m<d
        ·rw[decide_eq_true (show(m:Int)<d by omega)]
         cases gk with
         |zero=>omega
         |succ g=>
          have hpm: ∀j v,(Zc (fpw M (b k) m)).toList[j]?=some v->(nsC (16*n) (kfU M b (upd u k m)))[0+k*64+m*4+j]?=some v:=by
           have:=XX (16*n) (kfU M b (upd u k m)) (16*k+m) (by omega) (0+k*64+m*4) (by omega);rw[U7 M b (upd u k m) k m hm1 (by rw[YY];exact Nat.le_refl _) (by omega)]at this;exact this
          have hp1: ∀j v,(Zc (fpw M (b k) 1)).toList[j]?=some v->(nsC (16*n) (kfU M b (upd u k m)))[0+k*64+1*4+j]?=some v:=by
           have:=XX (16*n) (kfU M b (upd u k m)) (16*k+1) (by omega) (0+k*64+1*4) (by omega);rw[U7 M b (upd u k m) k 1 (by omega) (by rw[YY];exact hm1) (by omega)]at this;exact this
          have hput:Sn (nsC (16*n) (kfU M b (upd u k m))) (0+k*64+(m+1)*4) (Zc (fpw M (b k) (m+1))).toList=nsC (16*n) (kfU M b (upd u k (m+1))):=by
           refine W8 (16*n) _ _ (16*k+(m+1)) (by omega) _ (by omega) _ fun j _=>?_
           rw[<-TO M b (upd u k m) k m (by omega) (YY _ _ _),N7]
          have hiu:(isC n (upd u k m)).setIfInBounds k (.int .i64 ((m+1:Nat):Int))=isC n (upd u k (m+1)):=R8 n _ _ k (m+1) fun j _=>Hc u k m (m+1) j
          have hfl:=U8 M (b k) m h2;have hf1:=U8 M (b k) 1 h2;have hmf:=YQ M ho;have hti:=fun w'=>Xa (fpw M (b k) m) (fpw M (b k) 1) M (miL M) (Ww M) (sqL M) g0 w' (by omega) (by omega) hM ho h2 hmf.2.2 hmf.2.1 (.inl hfl)
          rw[Pf M (b k) m ho h2]at hti
          have sz:(0+k*64+(m+1)*4)+4<=(nsC (16*n) (kfU M b (upd u k m))).size:=by rw[Z7];omega
          iterate 8 go_step
          apply Zo (by kernel_rfl) [(gq,238,nsC (16*n) (kfU M b (upd u k m)))] [_,_,_,_,_,_,_,_,_,_,_,_,_,_,_,_,_,_,_,_,_,_,_,_,_,_] ⟨hL.rk,trivial⟩ (by simp<;>omega)
          ·intro p;refine ZB 237 _ rfl _ 0 rfl hL.h.k (by exact q5) (.slice (some ⟨gq,0,none⟩) n n) rfl isAgg237 ?_;refine m_m ?_;simp only[pv];refine ZB 62 _ rfl _ 0 rfl hL.h.u (by exact q2) (.slice (some ⟨gu,0,none⟩) n n) rfl isAgg62 ?_;refine m_m ?_;simp only[pv];refine Zg (.pointer (some ⟨gu,k,none⟩)) (fun w'=>(Zs 62 _ _ rfl gu 0 n n rfl k rfl hk _ underlying62 1 sizeOf3 w').trans (by rw[Nat.zero_add,Nat.mul_one])) ?_;simp only[pv];refine ZB 3 _ rfl _ k rfl hL.ru (by simpa using hne) (.int .i64 (m:Nat)) cm isAgg3 ?_;simp only[pv];refine Zg _ (x_a m 1) ?_;simp only[pv];refine ZB 109 _ rfl _ 0 rfl hL.h.r (by exact q3) (.pointer (some ⟨g0,0,none⟩)) rfl isAgg109 ?_;simp only[pv];refine ZB 237 _ rfl _ 0 rfl hL.h.k (by exact q5) (.slice (some ⟨gq,0,none⟩) n n) rfl isAgg237 ?_;refine m_m ?_;simp only[pv];refine ZB 62 _ rfl _ 0 rfl hL.h.u (by exact q2) (.slice (some ⟨gu,0,none⟩) n n) rfl isAgg62 ?_;refine m_m ?_;simp only[pv];refine Zg (.pointer (some ⟨gu,k,none⟩)) (fun w'=>(Zs 62 _ _ rfl gu 0 n n rfl k rfl hk _ underlying62 1 sizeOf3 w').trans (by rw[Nat.zero_add,Nat.mul_one])) ?_;simp only[pv];refine ZB 3 _ rfl _ k rfl hL.ru (by simpa using hne) (.int .i64 (m:Nat)) cm isAgg3 ?_;simp only[pv];refine m_x k hk underlying237 XG ?_;simp only[pv];refine Zg _ (ZE 238 _ _ rfl gq (0+k*64) rfl m 16 rfl (by omega) _ underlying238 4 ZU) ?_;simp only[pv];refine Vn 0 39 _ rfl (0+k*64+m*4) rfl rfl (Zc (fpw M (b k) m)) (hpm) _ underlying39 rfl Ze ?_;simp only[pv];refine ZB 237 _ rfl _ 0 rfl hL.h.k (by exact q5) (.slice (some ⟨gq,0,none⟩) n n) rfl isAgg237 ?_;refine m_m ?_;simp only[pv];refine m_x k hk underlying237 XG ?_;simp only[pv];refine Zg _ (ZE 238 _ _ rfl gq (0+k*64) rfl 1 16 rfl (by omega) _ underlying238 4 ZU) ?_;simp only[pv];refine Vn 0 39 _ rfl (0+k*64+1*4) rfl rfl (Zc (fpw M (b k) 1)) (hp1) _ underlying39 rfl Ze ?_;simp only[pv];refine m_k 134 func134 #[.pointer (some ⟨g0,0,none⟩),.agg (Zc (fpw M (b k) m)),.agg (Zc (fpw M (b k) 1))] (fun w' hk'=>hti w' (hk'.row hL.h.ring q0)) ?_;simp only[pv];refine m_x k hk underlying237 XG ?_;simp only[pv];refine Zg _ (ZE 238 _ _ rfl gq (0+k*64) rfl (m+1) 16 rfl (by omega) _ underlying238 4 ZU) ?_;simp only[pv];refine RX 0 39 _ _ rfl (0+k*64+(m+1)*4) rfl rfl (Zc (fpw M (b k) (m+1))) rfl (by exact Ze) sz (ZA _) (nsC (16*n) (kfU M b (upd u k (m+1)))) hput ?_;simp only[Act.put];refine Zi ?_;intro w6 hkw hrw _ _;have zk:Row w6 gq (nsC (16*n) (kfU M b (upd u k (m+1)))) 238:=hrw 0 (238,nsC (16*n) (kfU M b (upd u k (m+1)))) rfl;have h6:=hL.h.on hkw ⟨q0,q2,q3,q4,q5,qB⟩;have zu:=hkw.row hL.ru (by simp;exact hne);have z8:=hkw.row hL.r8 (by simp;omega);have zK:=hL.kept.trans hkw (by simp);clear hkw hrw hL hti hput hpm hp1 sz hmf hfl hf1;iterate 2 go_step
           apply Zd [(gu,3,isC n (upd u k m))] [_,_,_,_,_,_,_] ⟨zu,trivial⟩ (by simp<;>omega)
           ·intro p;refine ZB 62 _ rfl _ 0 rfl h6.u (by exact p2) (.slice (some ⟨gu,0,none⟩) n n) rfl isAgg62 ?_;refine m_m ?_;simp only[pv];refine Zg (.pointer (some ⟨gu,k,none⟩)) (fun w'=>(Zs 62 _ _ rfl gu 0 n n rfl k rfl hk _ underlying62 1 sizeOf3 w').trans (by rw[Nat.zero_add,Nat.mul_one])) ?_;simp only[pv];refine Vj 0 3 _ rfl (k) rfl rfl (.int .i64 (m:Nat)) cm isAgg3 ?_;simp only[pv];refine Zg _ (x_a m 1) ?_;simp only[pv];refine Zg (.pointer (some ⟨gu,k,none⟩)) (fun w'=>(Zs 62 _ _ rfl gu 0 n n rfl k rfl hk _ underlying62 1 sizeOf3 w').trans (by rw[Nat.zero_add,Nat.mul_one])) ?_;simp only[pv];refine W3 0 3 _ _ rfl (k) rfl rfl .i64 (((m+1:Nat):Int)) rfl sizeOf3 (by rw[Xh];exact hk) (isC n (upd u k (m+1))) hiu ?_;simp only[Act.put];refine Zi ?_;intro w7 hkw hrw _ _;have yu:Row w7 gu (isC n (upd u k (m+1))) 3:=hrw 0 (3,isC n (upd u k (m+1))) rfl;have hL':PwL w7 w n M b (upd u k (m+1)) g0 g2 g3 g4 g5 g8 gu gq gb ob cb bcs tb:=⟨h6.on hkw ⟨p0,p2,p3,p4,p5,pB⟩,yu,hkw.row zk (by simp;exact fun e=>hne e.symm),hkw.row z8 (by simp;omega),zK.trans hkw (by simp)⟩;clear hkw hrw yu h6 zu zk z8 zK cm hiu;go_wp2
            go_roundg g
            case measure=>omega
            case rel=>exact⟨m+1,by omega,by omega,by omega,by omega,hL'⟩
           ·rfl
          ·kernel_rfl
        ·rw[decide_eq_false (show ¬(m:Int)<d by omega)];have em:max (u k) d=m:=by omega
         have hpd: ∀j v,(Zc (fpw M (b k) d)).toList[j]?=some v->(nsC (16*n) (kfU M b (upd u k m)))[0+k*64+d*4+j]?=some v:=by
          have:=XX (16*n) (kfU M b (upd u k m)) (16*k+d) (by omega) (0+k*64+d*4) (by omega);rw[U7 M b (upd u k m) k d hd1 (by rw[YY];omega) (by omega)]at this;exact this
         iterate 7 go_step
         apply Zd [(g8,39,Zc 0)] [_,_,_,_,_,_,_] ⟨hL.r8,trivial⟩ (by simp<;>omega)
         ·intro p;refine ZB 237 _ rfl _ (0) rfl hL.h.k (by simp<;>omega) (.slice (some ⟨gq,0,none⟩) n n) rfl isAgg237 ?_;refine m_m ?_;refine m_m ?_;simp only[pv];refine m_x k hk underlying237 XG ?_;simp only[pv];refine Zg _ (ZE 238 _ _ rfl gq (0+k*64) rfl d 16 rfl (by omega) _ underlying238 4 ZU) ?_;simp only[pv];refine Xe 39 _ rfl _ ((0+k*64+d*4)) rfl hL.rk (by simp<;>omega) (Zc (fpw M (b k) d)) hpd _ underlying39 rfl Ze ?_;simp only[pv];refine m_p 0 (fpw M (b k) d) ?_;simp only[Act.put];refine Zi ?_;intro w6 hkw hrw _ _;have z8:Row w6 g8 (Zc (fpw M (b k) d)) 39:=hrw 0 (39,Zc (fpw M (b k) d)) rfl;have zu:=hkw.row hL.ru (by simp;omega);have zk:=hkw.row hL.rk (by simp;omega);have zK:=hL.kept.trans hkw (by simp;omega);clear hkw hrw hL;rw[<-em]at zu zk;go_wp2;exact ZX rfl _ rfl z8 4 _ underlying39 (by exact Ze) rfl ⟨rfl,zu,zk,zK⟩
         ·rfl
       ·rfl
     ·rfl
    ·kernel_rfl
   ·rfl
  ·iterate 4 go_step
   apply Zd [] [_,_,_,_,_] trivial List.nodup_nil
   ·intro p;refine ZB 62 _ rfl _ (0) rfl hH.u (by simp<;>omega) (.slice (some ⟨gu,0,none⟩) n n) rfl isAgg62 ?_;refine m_m ?_;simp only[pv];refine Zg (.pointer (some ⟨gu,k,none⟩)) (fun w'=>(Zs 62 _ _ rfl gu 0 n n rfl k rfl hk _ underlying62 1 sizeOf3 w').trans (by rw[Nat.zero_add,Nat.mul_one])) ?_;simp only[pv];refine ZB 3 _ rfl _ (k) rfl ru (by simp<;>omega) (.int .i64 (u k:Nat)) cu isAgg3 ?_;simp only[pv];refine Zg _ (Zq .i64 _ _ _ _ rfl (u k:Nat) 0 rfl rfl false (decide_eq_false (by omega))) ?_;simp only[pv];refine Zi ?_;intro w2 hkw _ _ _
    have eu:upd u k (u k)=u:=by funext j;unfold upd;split<;>simp_all
    have hL0:PwL w2 w n M b (upd u k (u k)) g0 g2 g3 g4 g5 g8 gu gq gb ob cb bcs tb:=by
     rw[eu];exact⟨hH.on hkw (by simp),hkw.row ru (by simp),hkw.row rk (by simp),hkw.row r8 (by simp),hK.trans hkw (by simp)⟩
    clear hkw hH ru rk r8 hK cu hk hd1 hd hM ho h2 hb hn hne hS eu hk' hM' ho' h2' hb' hn' hne' s0 s2 s3 s4 s5 sB lu lk
    go_wp2_with fail
    go_loopg [] 15 (fun g wr=> ∃m:Nat,1<=m/\m<=15/\max m d=max (u k) d/\d-m<=g/\PwL wr w n M b (upd u k m) g0 g2 g3 g4 g5 g8 gu gq gb ob cb bcs tb)
    case atStart=>exact⟨u k,by omega,by omega,by omega,by omega,hL0⟩
    case round=>
     obtain⟨m,hm1,hm2,hmx,hmg,hL⟩:=hrel;obtain⟨hk,hd1,hd,hu,hM,ho,h2,hb,hn,hne⟩:=HH.out;obtain⟨s0,s2,s3,s4,s5,sB⟩:=HS.out;clear hL0;have q0:=YN s0;have q2:=YN s2;have q3:=YN s3;have q4:=YN s4;have q5:=YN s5;have qB:=YN sB;have p0:=YO s0;have p2:=YO s2;have p3:=YO s3;have p4:=YO s4;have p5:=YO s5;have pB:=YO sB;have cm:(isC n (upd u k m))[k]?=some (.int .i64 (m:Nat)):=(XB n (upd u k m) k hk).trans (by rw[YY]);iterate 2 go_step
     apply Zd [] [_,_,_,_,_,_] trivial List.nodup_nil
     ·intro p;refine ZB 62 _ rfl _ (0) rfl hL.h.u (by simp<;>omega) (.slice (some ⟨gu,0,none⟩) n n) rfl isAgg62 ?_;refine m_m ?_;simp only[pv];refine Zg (.pointer (some ⟨gu,k,none⟩)) (fun w'=>(Zs 62 _ _ rfl gu 0 n n rfl k rfl hk _ underlying62 1 sizeOf3 w').trans (by rw[Nat.zero_add,Nat.mul_one])) ?_;simp only[pv];refine ZB 3 _ rfl _ (k) rfl hL.ru (by simp<;>omega) (.int .i64 (m:Nat)) (cm) isAgg3 ?_;refine m_m ?_;simp only[pv];refine Zg _ (Yv _ _ _ _ rfl m d rfl rfl) ?_;simp only[pv];refine Zi ?_;intro w5 hkw _ _ _;replace hL:PwL w5 w n M b (upd u k m) g0 g2 g3 g4 g5 g8 gu gq gb ob cb bcs tb:=⟨hL.h.on hkw (by simp),hkw.row hL.ru (by simp),hkw.row hL.rk (by simp),hkw.row hL.r8 (by simp),hL.kept.trans hkw (by simp)⟩;clear hkw;by_cases hlt:m<d
      ·rw[decide_eq_true (show(m:Int)<d by omega)]
       cases gk with
       |zero=>omega
       |succ g=>
        have hpm: ∀j v,(Zc (fpw M (b k) m)).toList[j]?=some v->(nsC (16*n) (kfU M b (upd u k m)))[0+k*64+m*4+j]?=some v:=by
         have:=XX (16*n) (kfU M b (upd u k m)) (16*k+m) (by omega) (0+k*64+m*4) (by omega);rw[U7 M b (upd u k m) k m hm1 (by rw[YY];exact Nat.le_refl _) (by omega)]at this;exact this
        have hp1: ∀j v,(Zc (fpw M (b k) 1)).toList[j]?=some v->(nsC (16*n) (kfU M b (upd u k m)))[0+k*64+1*4+j]?=some v:=by
         have:=XX (16*n) (kfU M b (upd u k m)) (16*k+1) (by omega) (0+k*64+1*4) (by omega);rw[U7 M b (upd u k m) k 1 (by omega) (by rw[YY];exact hm1) (by omega)]at this;exact this
        have hput:Sn (nsC (16*n) (kfU M b (upd u k m))) (0+k*64+(m+1)*4) (Zc (fpw M (b k) (m+1))).toList=nsC (16*n) (kfU M b (upd u k (m+1))):=by
         refine W8 (16*n) _ _ (16*k+(m+1)) (by omega) _ (by omega) _ fun j _=>?_
         rw[<-TO M b (upd u k m) k m (by omega) (YY _ _ _),N7]
        have hiu:(isC n (upd u k m)).setIfInBounds k (.int .i64 ((m+1:Nat):Int))=isC n (upd u k (m+1)):=R8 n _ _ k (m+1) fun j _=>Hc u k m (m+1) j
        have hfl:=U8 M (b k) m h2;have hf1:=U8 M (b k) 1 h2;have hmf:=YQ M ho;have hti:=fun w'=>Xa (fpw M (b k) m) (fpw M (b k) 1) M (miL M) (Ww M) (sqL M) g0 w' (by omega) (by omega) hM ho h2 hmf.2.2 hmf.2.1 (.inl hfl)
        rw[Pf M (b k) m ho h2]at hti
        have sz:(0+k*64+(m+1)*4)+4<=(nsC (16*n) (kfU M b (upd u k m))).size:=by rw[Z7];omega
        iterate 8 go_step
        apply Zo (by kernel_rfl) [(gq,238,nsC (16*n) (kfU M b (upd u k m)))] [_,_,_,_,_,_,_,_,_,_,_,_,_,_,_,_,_,_,_,_,_,_,_,_,_,_] ⟨hL.rk,trivial⟩ (by simp<;>omega)
        ·intro p;refine ZB 237 _ rfl _ 0 rfl hL.h.k (by exact q5) (.slice (some ⟨gq,0,none⟩) n n) rfl isAgg237 ?_;refine m_m ?_;simp only[pv];refine ZB 62 _ rfl _ 0 rfl hL.h.u (by exact q2) (.slice (some ⟨gu,0,none⟩) n n) rfl isAgg62 ?_;refine m_m ?_;simp only[pv];refine Zg (.pointer (some ⟨gu,k,none⟩)) (fun w'=>(Zs 62 _ _ rfl gu 0 n n rfl k rfl hk _ underlying62 1 sizeOf3 w').trans (by rw[Nat.zero_add,Nat.mul_one])) ?_;simp only[pv];refine ZB 3 _ rfl _ k rfl hL.ru (by simpa using hne) (.int .i64 (m:Nat)) cm isAgg3 ?_;simp only[pv];refine Zg _ (x_a m 1) ?_;simp only[pv];refine ZB 109 _ rfl _ 0 rfl hL.h.r (by exact q3) (.pointer (some ⟨g0,0,none⟩)) rfl isAgg109 ?_;simp only[pv];refine ZB 237 _ rfl _ 0 rfl hL.h.k (by exact q5) (.slice (some ⟨gq,0,none⟩) n n) rfl isAgg237 ?_;refine m_m ?_;simp only[pv];refine ZB 62 _ rfl _ 0 rfl hL.h.u (by exact q2) (.slice (some ⟨gu,0,none⟩) n n) rfl isAgg62 ?_;refine m_m ?_;simp only[pv];refine Zg (.pointer (some ⟨gu,k,none⟩)) (fun w'=>(Zs 62 _ _ rfl gu 0 n n rfl k rfl hk _ underlying62 1 sizeOf3 w').trans (by rw[Nat.zero_add,Nat.mul_one])) ?_;simp only[pv];refine ZB 3 _ rfl _ k rfl hL.ru (by simpa using hne) (.int .i64 (m:Nat)) cm isAgg3 ?_;simp only[pv];refine m_x k hk underlying237 XG ?_;simp only[pv];refine Zg _ (ZE 238 _ _ rfl gq (0+k*64) rfl m 16 rfl (by omega) _ underlying238 4 ZU) ?_;simp only[pv];refine Vn 0 39 _ rfl (0+k*64+m*4) rfl rfl (Zc (fpw M (b k) m)) (hpm) _ underlying39 rfl Ze ?_;simp only[pv];refine ZB 237 _ rfl _ 0 rfl hL.h.k (by exact q5) (.slice (some ⟨gq,0,none⟩) n n) rfl isAgg237 ?_;refine m_m ?_;simp only[pv];refine m_x k hk underlying237 XG ?_;simp only[pv];refine Zg _ (ZE 238 _ _ rfl gq (0+k*64) rfl 1 16 rfl (by omega) _ underlying238 4 ZU) ?_;simp only[pv];refine Vn 0 39 _ rfl (0+k*64+1*4) rfl rfl (Zc (fpw M (b k) 1)) (hp1) _ underlying39 rfl Ze ?_;simp only[pv];refine m_k 134 func134 #[.pointer (some ⟨g0,0,none⟩),.agg (Zc (fpw M (b k) m)),.agg (Zc (fpw M (b k) 1))] (fun w' hk'=>hti w' (hk'.row hL.h.ring q0)) ?_;simp only[pv];refine m_x k hk underlying237 XG ?_;simp only[pv];refine Zg _ (ZE 238 _ _ rfl gq (0+k*64) rfl (m+1) 16 rfl (by omega) _ underlying238 4 ZU) ?_;simp only[pv];refine RX 0 39 _ _ rfl (0+k*64+(m+1)*4) rfl rfl (Zc (fpw M (b k) (m+1))) rfl (by exact Ze) sz (ZA _) (nsC (16*n) (kfU M b (upd u k (m+1)))) hput ?_;simp only[Act.put];refine Zi ?_;intro w6 hkw hrw _ _;have zk:Row w6 gq (nsC (16*n) (kfU M b (upd u k (m+1)))) 238:=hrw 0 (238,nsC (16*n) (kfU M b (upd u k (m+1)))) rfl;have h6:=hL.h.on hkw ⟨q0,q2,q3,q4,q5,qB⟩;have zu:=hkw.row hL.ru (by simp;exact hne);have z8:=hkw.row hL.r8 (by simp;omega);have zK:=hL.kept.trans hkw (by simp);clear hkw hrw hL hti hput hpm hp1 sz hmf hfl hf1;iterate 2 go_step
         apply Zd [(gu,3,isC n (upd u k m))] [_,_,_,_,_,_,_] ⟨zu,trivial⟩ (by simp<;>omega)
         ·intro p;refine ZB 62 _ rfl _ 0 rfl h6.u (by exact p2) (.slice (some ⟨gu,0,none⟩) n n) rfl isAgg62 ?_;refine m_m ?_;simp only[pv];refine Zg (.pointer (some ⟨gu,k,none⟩)) (fun w'=>(Zs 62 _ _ rfl gu 0 n n rfl k rfl hk _ underlying62 1 sizeOf3 w').trans (by rw[Nat.zero_add,Nat.mul_one])) ?_;simp only[pv];refine Vj 0 3 _ rfl (k) rfl rfl (.int .i64 (m:Nat)) cm isAgg3 ?_;simp only[pv];refine Zg _ (x_a m 1) ?_;simp only[pv];refine Zg (.pointer (some ⟨gu,k,none⟩)) (fun w'=>(Zs 62 _ _ rfl gu 0 n n rfl k rfl hk _ underlying62 1 sizeOf3 w').trans (by rw[Nat.zero_add,Nat.mul_one])) ?_;simp only[pv];refine W3 0 3 _ _ rfl (k) rfl rfl .i64 (((m+1:Nat):Int)) rfl sizeOf3 (by rw[Xh];exact hk) (isC n (upd u k (m+1))) hiu ?_;simp only[Act.put];refine Zi ?_;intro w7 hkw hrw _ _;have yu:Row w7 gu (isC n (upd u k (m+1))) 3:=hrw 0 (3,isC n (upd u k (m+1))) rfl;have hL':PwL w7 w n M b (upd u k (m+1)) g0 g2 g3 g4 g5 g8 gu gq gb ob cb bcs tb:=⟨h6.on hkw ⟨p0,p2,p3,p4,p5,pB⟩,yu,hkw.row zk (by simp;exact fun e=>hne e.symm),hkw.row z8 (by simp;omega),zK.trans hkw (by simp)⟩;clear hkw hrw yu h6 zu zk z8 zK cm hiu;go_wp2
          go_roundg g
          case measure=>omega
          case rel=>exact⟨m+1,by omega,by omega,by omega,by omega,hL'⟩
         ·rfl
        ·kernel_rfl
      ·rw[decide_eq_false (show ¬(m:Int)<d by omega)];have em:max (u k) d=m:=by omega
       have hpd: ∀j v,(Zc (fpw M (b k) d)).toList[j]?=some v->(nsC (16*n) (kfU M b (upd u k m)))[0+k*64+d*4+j]?=some v:=by
        have:=XX (16*n) (kfU M b (upd u k m)) (16*k+d) (by omega) (0+k*64+d*4) (by omega);rw[U7 M b (upd u k m) k d hd1 (by rw[YY];omega) (by omega)]at this;exact this
       iterate 7 go_step
       apply Zd [(g8,39,Zc 0)] [_,_,_,_,_,_,_] ⟨hL.r8,trivial⟩ (by simp<;>omega)
       ·intro p;refine ZB 237 _ rfl _ (0) rfl hL.h.k (by simp<;>omega) (.slice (some ⟨gq,0,none⟩) n n) rfl isAgg237 ?_;refine m_m ?_;refine m_m ?_;simp only[pv];refine m_x k hk underlying237 XG ?_;simp only[pv];refine Zg _ (ZE 238 _ _ rfl gq (0+k*64) rfl d 16 rfl (by omega) _ underlying238 4 ZU) ?_;simp only[pv];refine Xe 39 _ rfl _ ((0+k*64+d*4)) rfl hL.rk (by simp<;>omega) (Zc (fpw M (b k) d)) hpd _ underlying39 rfl Ze ?_;simp only[pv];refine m_p 0 (fpw M (b k) d) ?_;simp only[Act.put];refine Zi ?_;intro w6 hkw hrw _ _;have z8:Row w6 g8 (Zc (fpw M (b k) d)) 39:=hrw 0 (39,Zc (fpw M (b k) d)) rfl;have zu:=hkw.row hL.ru (by simp;omega);have zk:=hkw.row hL.rk (by simp;omega);have zK:=hL.kept.trans hkw (by simp;omega);clear hkw hrw hL;rw[<-em]at zu zk;go_wp2;exact ZX rfl _ rfl z8 4 _ underlying39 (by exact Ze) rfl ⟨rfl,zu,zk,zK⟩
       ·rfl
     ·rfl
   ·rfl
 ·rfl
end Go.Proofs.YtcdahmommonnfaaGreatDoor
