import Derived.Test.YtnagnkhbamhfmaaGreatDoorMP
import Derived.Test.YtnagnkhbamhfmaaGreatDoorGO
namespace Go.Proofs.YtnagnkhbamhfmaaGreatDoor
set_option linter.all false
open Go.Proofs.Tryz
open Go.RowKit
section
variable {P:Program}{olds:W3}{p:Nat->Nat}{W:World}{F:Act->Ct->Prop}{n:Nat}{l:List Oper}{pl:List Sp}{a:Act}{ct:Ct}{o:Oper}
theorem Gx {fn:Func}(f:FuncId)(args:Array Operand)(ts:Array TypeId)
  (ho:o.op= .call {callee:=.value (.func f),args:=args,argTypes:=ts})(hf:P.funcs[f]?=some fn)(hb:(fn.name== "runtime.NumGoroutine" ||fn.body.isNone)=false)
  (vs:Array Value)(hv':args.toList.map a.eval=vs.toList)(v:Value)(ks:List Nat)
  (hc: ∀w,Kept (olds.map (·.1)) W w->(∀k∈ks,∀y,ct k=some y->Row w (Z8 olds p k) y.2 y.1)->Calls P f vs w (Rt v w))
  (h:MX P olds p W F (n+1) l pl (a.put o.dst v) ct):MX P olds p W F n (o::l) ((fun _=>v,ks,none,[])::pl) a ct:=by
 refine Rf f vs v ks (fun w=>?_) hc h
 have hv:args.map a.eval=vs:=by apply bO0.1;rw[aR0];exact hv'
 have hr:=Z4 (P:=P) hf hb vs w;unfold execOp;simp only[ho,resolve,hv,Act.eval];simp[Deferred.ofValue,invoke,hr]
theorem KO (t e:TypeId)(len:Nat)(parts:Array (Nat×Operand))(ho:o.op= .buildSlice t len parts)(cells:Array Value)(ie:TypeInfo)(z:Value)
  (hu:P.underlying t=some (.slice e))(hie:P.info? e=some ie)(hz:ie.zero=some z)(hsmall: ¬len*ie.size>2^24)(hpos: ¬len*ie.size=0)
  (vals:List (Nat×Value))(hv:parts.toList.map (fun x=>(x.1,a.eval x.2))=vals)
  (hf:Instr.fill (fun i=>some (i*ie.size,ie.size)) ((Array.range (len*ie.size)).map (z.cells[· %z.cells.size]!)) vals=some cells)
  (h:MX P olds p W F (n+1) l pl (a.put o.dst (.slice (some ⟨p n,0,none⟩) len len)) (XU ct (2*n+1) (e,cells))):
  MX P olds p W F n (o::l) ((fun q=>.slice (some ⟨q n,0,none⟩) len len,[],some (e,cells),[])::pl) a ct:=
 DY t e len parts ho cells ie z hu hie hz hsmall hpos (by rw[aR0];rw[<-hv]at hf;exact hf) h
end
theorem QM:(prog.info? 57).map (fun i=>(i.zero,i.size,i.bytes))=some (some (.agg #[.int .u64 0,.int .u64 0,.int .u64 0,.int .u64 0]),4,32):=by kernel_rfl
theorem Yn: ∃i,prog.info? 57=some i/\i.zero=some (.agg #[.int .u64 0,.int .u64 0,.int .u64 0,.int .u64 0])/\i.size=4/\i.bytes=32:=by
 cases hi:prog.info? 57 with
 |none=>have:=QM;rw[hi]at this;cases this
 |some i=>
  have h:=QM;rw[hi]at h;simp only[aS0,aL0,dE0]at h;exact⟨i,rfl,h.1,h.2.1,h.2.2⟩
theorem Vf (A k:Nat)(hk:k=4):Instr.fill (fun i=>some (i*k,k)) ((Array.range (1*k)).map ((Value.agg #[.int .u64 0,.int .u64 0,.int .u64 0,.int .u64 0]).cells[· %(Value.agg #[.int .u64 0,.int .u64 0,.int .u64 0,.int .u64 0]).cells.size]!)) [(0,.agg (Zc A))]=some (Zc A):=by
 subst hk;unfold Zc;generalize lm A 0=a0;generalize lm A 1=a1;generalize lm A 2=a2;generalize lm A 3=a3
 kernel_rfl
theorem KP (A B k:Nat)(hk:k=4):Instr.fill (fun i=>some (i*k,k)) ((Array.range (2*k)).map ((Value.agg #[.int .u64 0,.int .u64 0,.int .u64 0,.int .u64 0]).cells[· %(Value.agg #[.int .u64 0,.int .u64 0,.int .u64 0,.int .u64 0]).cells.size]!)) [(0,.agg (Zc A)),(1,.agg (Zc B))]=some (Zc A++Zc B):=by
 subst hk;unfold Zc;generalize lm A 0=a0;generalize lm A 1=a1;generalize lm A 2=a2;generalize lm A 3=a3;generalize lm B 0=b0;generalize lm B 1=b1;generalize lm B 2=b2;generalize lm B 3=b3
 kernel_rfl
theorem Y7 {w:World}{g A:Nat}(h:Row w g (Zc A) 57)(hA:A<2^256):NatsAt w (some ⟨g,0,none⟩) 1 (fun _=>A) g 0 (Zc A) 57:=
 ⟨.inr ⟨rfl,h.r,fun i hi j v hv=>by
  obtain rfl:i=0:=by omega
  rw[o_]at hv;rw[show 0+0*4+j=j by omega]
  exact hv⟩,fun _ _=>hA⟩
def xk (A B i:Nat):Nat:=if i=0 then A else B
theorem Nq {w:World}{g A B:Nat}(h:Row w g (Zc A++Zc B) 57)(hA:A<2^256)(hB:B<2^256):NatsAt w (some ⟨g,0,none⟩) 2 (xk A B) g 0 (Zc A++Zc B) 57:=
 ⟨.inr ⟨rfl,h.r,fun i hi j v hv=>by
  rw[o_]at hv
  have hj:j<4:=by
   have:=(O_.1 hv).1;rw[Zo]at this;exact this
  by_cases e:i=0
  ·subst e;rw[show 0+0*4+j=j by omega,Array.getElem?_append_left (by rw[Zo];exact hj)];exact hv
  ·obtain rfl:i=1:=by omega
   rw[show 0+1*4+j=4+j by omega,Array.getElem?_append_right (by rw[Zo];omega),Zo,aN0]
   exact hv⟩,fun i _=>by unfold xk;split<;>assumption⟩
set_option maxRecDepth 100000 in
set_option maxHeartbeats 1000000 in
theorem Od (A E M g0:Nat)(w:World)(hA:A<2^256)(hE:E<2^256)(hM:M<2^256)(ho:M%2=1)(h2:2<=M)(r0:Row w g0 (rgC M (miL M) (WX M) (sqL M)) 160):
  Calls prog 56 #[.pointer (some ⟨g0,0,none⟩),.agg (Zc A),.agg (Zc E)] w fun e w'=>e= .returned (.agg (Zc (A^E%M)))/\Below w.heap.size w w':=by
 obtain⟨ie,hie,hz,hsz,_⟩:=Yn;have hpr:=fun(x y:Nat) w' (ra:Row w' x (Zc A) 57) (rb:Row w' y (Zc E) 57)=>Oa 1 M (fun _=>A) (fun _=>E) (some ⟨x,0,none⟩) (some ⟨y,0,none⟩) 1 1 x 0 y 0 (Zc A) (Zc E) 57 57 g0 w' ⟨by decide,hM,ho,h2,Y7 ra hA,Y7 rb hE⟩
 rw[show prd (fun _=>A^E) 1=A^E from cM0 _]at hpr
 have hs1: ¬1*ie.size>2^24:=by rw[hsz];decide
 have hs2: ¬1*ie.size=0:=by rw[hsz];decide
 have hlA:=Vf A ie.size hsz;have hlE:=Vf E ie.size hsz;clear hA hE hM ho h2;generalize A^E%M=Z at*
 go_enter func56,ntmps56
 iterate 2 go_step
 apply Za [] [_,_,_] trivial a_
 ·intro p;refine Ya 57 _ rfl _ rfl ?_;simp only[pv];refine Ya 57 _ rfl _ rfl ?_;simp only[pv];refine m_n ?_;simp only[pv];refine Zf ?_;intro w2 hkw hrw hnew hdis;have n4:=hnew 0 rfl;have n5:=hnew 1 rfl;have n6:=hnew 2 rfl;have zr4:Row w2 (p 0) (Zc A) 57:=hrw 1 (57,Zc A) rfl;have zr5:Row w2 (p 1) (Zc E) 57:=hrw 3 (57,Zc E) rfl;have zr6:Row w2 (p 2) (Zc 0) 57:=hrw 5 (57,Zc 0) rfl;replace r0:=hkw.ro r0;have sb:=k_b hkw;have b6:w.heap.size<=p 2:=n6;clear hkw hrw hnew hdis n4 n5 n6;generalize p 0=g4 at*;generalize p 1=g5 at*;generalize p 2=g6 at*;have r4:=zr4;clear zr4;have r5:=zr5;clear zr5;have r6:=zr6;clear zr6;iterate 3 go_step
  apply Za [] [_,_,_,_,_,_,_,_,_,_,_,_] trivial a_
  ·intro p;refine m_m ?_;simp only[pv];refine m_l r4 ?_;simp only[pv];refine KO 22 57 1 _ rfl (Zc A) ie _ r_ hie hz hs1 hs2 [(0,.agg (Zc A))] rfl hlA ?_;simp only[pv];refine m_l r5 ?_;simp only[pv];refine KO 22 57 1 _ rfl (Zc E) ie _ r_ hie hz hs1 hs2 [(0,.agg (Zc E))] rfl hlE ?_;simp only[pv];refine Gx 116 _ _ rfl func116 (by kernel_rfl) #[.pointer (some ⟨g0,0,none⟩),.slice (some ⟨p 2,0,none⟩) 1 1,.slice (some ⟨p 4,0,none⟩) 1 1] rfl (.tuple #[.agg (Zc Z),.int .i64 0]) [5,9] (fun w' hk hr=>hpr (p 2) (p 4) w' (hr 5 (by simp) (57,Zc A) rfl) (hr 9 (by simp) (57,Zc E) rfl) (hk.row r0 (by simp))) ?_;refine m_m ?_;refine m_e ?_;refine m_e ?_;simp only[pv];refine m_n ?_;simp only[pv];refine m_p 19 Z ?_;simp only[Act.put];refine m_a ?_;simp only[pv];refine Zf ?_;intro w3 hkw hrw hnew _;have r7:Row w3 (p 9) (Zc Z) 57:=hrw 19 (57,Zc Z) rfl;have n7:=hnew 9 rfl;have d67:=l_l r6.lt n7;replace r6:=hkw.row r6 (by simp);replace sb:=sb.trans (hkw.below w.heap.size sb.size (by simp));clear hkw hrw hnew n7 hpr hlA hlE r4 r5 r0;generalize p 9=g7 at*;iterate 3 go_step
   apply Za [(g6,57,Zc 0)] [_,_] ⟨r6,trivial⟩ (by simp<;>omega)
   ·intro p;refine m_l r7 ?_;simp only[pv];refine m_p 0 Z ?_;simp only[Act.put];refine Zf ?_;intro w4 hkw hrw hnew hdis;have zr6:Row w4 (g6) (Zc Z) 57:=hrw 0 (57,Zc Z) rfl;replace sb:=kk sb hkw;clear hkw hrw hnew hdis r6;have r6:=zr6;clear zr6;go_wp2;exact ZM rfl _ rfl r6 4 _ b_ (by exact Zd) rfl ⟨rfl,sb⟩
   ·rfl
  ·rfl
 ·rfl
structure RgQ (M:Nat):Prop where
 m:M<2^256
 odd:M%2=1
 two:2<=M
theorem zg (A B M g0:Nat)(q:RgQ M)(w:World)(hA:A<2^256)(hB:B<2^256)(r0:Row w g0 (rgC M (miL M) (WX M) (sqL M)) 160):
  Calls prog 144 #[.pointer (some ⟨g0,0,none⟩),.agg (Zc A),.agg (Zc B)] w (Rt (.agg (Zc (A*B%M))) w):=by
 have h:=P0 A B M (miL M) (WX M) (sqL M) g0 w hA hB q.m q.odd q.two (YT M q.odd).2.2 (YT M q.odd).2.1 (m_ _ (l_ (by decide) q.two)) r0;rw[Ko B M q.odd q.two,QA,hG0,show mt A (fm M B) M=A*B%M from Tz A B M q.odd q.two]at h;exact h
end Go.Proofs.YtnagnkhbamhfmaaGreatDoor
