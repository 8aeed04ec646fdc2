import Derived.Test.YtcdahmommonnfaaGreatDoorMP
import Derived.Test.YtcdahmommonnfaaGreatDoorGO
set_option maxRecDepth 100000
set_option maxHeartbeats 8000000
namespace Go.Proofs.YtcdahmommonnfaaGreatDoor
set_option linter.all false
open Go.Proofs.Tryz
open Go.RowKit
section
variable {P:Program}{olds:Wz}{p:Nat->Nat}{W:World}{F:Act->Ct->Prop}{n:Nat}{l:List Oper}{pl:List Sp}{a:Act}{ct:Ct}{o:Oper}
theorem Js {fn:Func}(f:FuncId)(args:Array Operand)(ts:Array TypeId)
  (ho:o.op= .call {callee:=.value (.func f),args:=args,argTypes:=ts})(hf:P.funcs[f]?=some fn)(hb:(fn.name== "runtime.NumGoroutine" ||fn.body.isNone)=false)
  (vs:Array Value)(hv':args.toList.map a.eval=vs.toList)(v:Value)(ks:List Nat)
  (hc: ∀w,Kept (olds.map (·.1)) W w->(∀k∈ks,∀y,ct k=some y->Row w (ZY olds p k) y.2 y.1)->Calls P f vs w (Rt v w))
  (h:MX P olds p W F (n+1) l pl (a.put o.dst v) ct):MX P olds p W F n (o::l) ((fun _=>v,ks,none,[])::pl) a ct:=by
 refine Tt f vs v ks (fun w=>?_) hc h
 have hv:args.map a.eval=vs:=by apply Array.toList_inj.1;rw[Array.toList_map];exact hv'
 have hr:=ZM (P:=P) hf hb vs w;unfold execOp;simp only[ho,resolve,hv,Act.eval];simp[Deferred.ofValue,invoke,hr]
theorem Mj (t e:TypeId)(len:Nat)(parts:Array (Nat×Operand))(ho:o.op= .buildSlice t len parts)(cells:Array Value)(ie:TypeInfo)(z:Value)
  (hu:P.underlying t=some (.slice e))(hie:P.info? e=some ie)(hz:ie.zero=some z)(hsmall: ¬len*ie.size>2^24)(hpos: ¬len*ie.size=0)
  (vals:List (Nat×Value))(hv:parts.toList.map (fun x=>(x.1,a.eval x.2))=vals)
  (hf:Instr.fill (fun i=>some (i*ie.size,ie.size)) ((Array.range (len*ie.size)).map (z.cells[· %z.cells.size]!)) vals=some cells)
  (h:MX P olds p W F (n+1) l pl (a.put o.dst (.slice (some ⟨p n,0,none⟩) len len)) (XC ct (2*n+1) (e,cells))):
  MX P olds p W F n (o::l) ((fun q=>.slice (some ⟨q n,0,none⟩) len len,[],some (e,cells),[])::pl) a ct:=
 GB t e len parts ho cells ie z hu hie hz hsmall hpos (by rw[Array.toList_map];rw[<-hv]at hf;exact hf) h
end
theorem SZ:(prog.info? 39).map (fun i=>(i.zero,i.size,i.bytes))=some (some (.agg #[.int .u64 0,.int .u64 0,.int .u64 0,.int .u64 0]),4,32):=by kernel_rfl
theorem YL: ∃i,prog.info? 39=some i/\i.zero=some (.agg #[.int .u64 0,.int .u64 0,.int .u64 0,.int .u64 0])/\i.size=4/\i.bytes=32:=by
 cases hi:prog.info? 39 with
 |none=>have:=SZ;rw[hi]at this;cases this
 |some i=>
  have h:=SZ;rw[hi]at h;simp only[Option.map_some,Option.some.injEq,Prod.mk.injEq]at h;exact⟨i,rfl,h.1,h.2.1,h.2.2⟩
theorem Ut (A k:Nat)(hk:k=4):Instr.fill (fun i=>some (i*k,k)) ((Array.range (1*k)).map ((Value.agg #[.int .u64 0,.int .u64 0,.int .u64 0,.int .u64 0]).cells[· %(Value.agg #[.int .u64 0,.int .u64 0,.int .u64 0,.int .u64 0]).cells.size]!)) [(0,.agg (Zc A))]=some (Zc A):=by
 subst hk;unfold Zc;generalize lm A 0=a0;generalize lm A 1=a1;generalize lm A 2=a2;generalize lm A 3=a3
 kernel_rfl
theorem V0 {w:World}{g A:Nat}(h:Row w g (Zc A) 39)(hA:A<2^256):NatsAt w (some ⟨g,0,none⟩) 1 (fun _=>A) g 0 (Zc A) 39:=
 ⟨.inr ⟨rfl,h.r,fun i hi j v hv=>by
  obtain rfl:i=0:=by omega
  rw[Array.getElem?_toList]at hv;rw[show 0+0*4+j=j by omega]
  exact hv⟩,fun _ _=>hA⟩
def two2 (A B i:Nat):Nat:=if i=0 then A else B
theorem Qf (A E M g0:Nat)(w:World)(hA:A<2^256)(hE:E<2^256)(hM:M<2^256)(ho:M%2=1)(h2:2<=M)(r0:Row w g0 (rgC M (miL M) (Ww M) (sqL M)) 157):
  Calls prog 41 #[.pointer (some ⟨g0,0,none⟩),.agg (Zc A),.agg (Zc E)] w fun e w'=>e= .returned (.agg (Zc (A^E%M)))/\Below w.heap.size w w':=by
 obtain⟨ie,hie,hz,hsz,_⟩:=YL;have hpr:=fun(x y:Nat) w' (ra:Row w' x (Zc A) 39) (rb:Row w' y (Zc E) 39)=>Mg 1 M (fun _=>A) (fun _=>E) (some ⟨x,0,none⟩) (some ⟨y,0,none⟩) 1 1 x 0 y 0 (Zc A) (Zc E) 39 39 g0 w' ⟨by decide,hM,ho,h2,V0 ra hA,V0 rb hE⟩
 rw[show prd (fun _=>A^E) 1=A^E from Nat.one_mul _]at hpr
 have hs1: ¬1*ie.size>2^24:=by rw[hsz];decide
 have hs2: ¬1*ie.size=0:=by rw[hsz];decide
 have hlA:=Ut A ie.size hsz;have hlE:=Ut E ie.size hsz;clear hA hE hM ho h2;generalize A^E%M=Z at*
 go_enter func41,ntmps41
 iterate 2 go_step
 apply Zd [] [_,_,_] trivial List.nodup_nil
 ·intro p;refine YD 39 _ rfl _ rfl ?_;simp only[pv];refine YD 39 _ rfl _ rfl ?_;simp only[pv];refine m_n ?_;simp only[pv];refine Zi ?_;intro w2 hkw hrw hnew hdis;have n4:=hnew 0 rfl;have n5:=hnew 1 rfl;have n6:=hnew 2 rfl;have zr4:Row w2 (p 0) (Zc A) 39:=hrw 1 (39,Zc A) rfl;have zr5:Row w2 (p 1) (Zc E) 39:=hrw 3 (39,Zc E) rfl;have zr6:Row w2 (p 2) (Zc 0) 39:=hrw 5 (39,Zc 0) rfl;replace r0:=hkw.ro r0;have sb:=k_b hkw;have b6:w.heap.size<=p 2:=n6;clear hkw hrw hnew hdis n4 n5 n6;generalize p 0=g4 at*;generalize p 1=g5 at*;generalize p 2=g6 at*;have r4:=zr4;clear zr4;have r5:=zr5;clear zr5;have r6:=zr6;clear zr6;iterate 3 go_step
  apply Zd [] [_,_,_,_,_,_,_,_,_,_,_,_] trivial List.nodup_nil
  ·intro p;refine m_m ?_;simp only[pv];refine m_l r4 ?_;simp only[pv];refine Mj 54 39 1 _ rfl (Zc A) ie _ underlying54 hie hz hs1 hs2 [(0,.agg (Zc A))] rfl hlA ?_;simp only[pv];refine m_l r5 ?_;simp only[pv];refine Mj 54 39 1 _ rfl (Zc E) ie _ underlying54 hie hz hs1 hs2 [(0,.agg (Zc E))] rfl hlE ?_;simp only[pv];refine Js 87 _ _ rfl func87 (by kernel_rfl) #[.pointer (some ⟨g0,0,none⟩),.slice (some ⟨p 2,0,none⟩) 1 1,.slice (some ⟨p 4,0,none⟩) 1 1] rfl (.tuple #[.agg (Zc Z),.int .i64 0]) [5,9] (fun w' hk hr=>hpr (p 2) (p 4) w' (hr 5 (by simp) (39,Zc A) rfl) (hr 9 (by simp) (39,Zc E) rfl) (hk.row r0 (by simp))) ?_;refine m_m ?_;refine m_e ?_;refine m_e ?_;simp only[pv];refine m_n ?_;simp only[pv];refine m_p 19 Z ?_;simp only[Act.put];refine m_a ?_;simp only[pv];refine Zi ?_;intro w3 hkw hrw hnew _;have r7:Row w3 (p 9) (Zc Z) 39:=hrw 19 (39,Zc Z) rfl;have n7:=hnew 9 rfl;have d67:=l_l r6.lt n7;replace r6:=hkw.row r6 (by simp);replace sb:=sb.trans (hkw.below w.heap.size sb.size (by simp));clear hkw hrw hnew n7 hpr hlA hlE r4 r5 r0;generalize p 9=g7 at*;iterate 3 go_step
   apply Zd [(g6,39,Zc 0)] [_,_] ⟨r6,trivial⟩ (by simp<;>omega)
   ·intro p;refine m_l r7 ?_;simp only[pv];refine m_p 0 Z ?_;simp only[Act.put];refine Zi ?_;intro w4 hkw hrw hnew hdis;have zr6:Row w4 (g6) (Zc Z) 39:=hrw 0 (39,Zc Z) rfl;replace sb:=kk sb hkw;clear hkw hrw hnew hdis r6;have r6:=zr6;clear zr6;go_wp2;exact ZX rfl _ rfl r6 4 _ underlying39 (by exact Ze) rfl ⟨rfl,sb⟩
   ·rfl
  ·rfl
 ·rfl
structure RgQ (M:Nat):Prop where
 m:M<2^256
 odd:M%2=1
 two:2<=M
theorem Dd (A B M g0:Nat)(q:RgQ M)(w:World)(hA:A<2^256)(hB:B<2^256)(r0:Row w g0 (rgC M (miL M) (Ww M) (sqL M)) 157):
  Calls prog 270 #[.pointer (some ⟨g0,0,none⟩),.agg (Zc A),.agg (Zc B)] w (Rt (.agg (Zc (A*B%M))) w):=by
 have h:=R6 A B M (miL M) (Ww M) (sqL M) g0 w hA hB q.m q.odd q.two (YQ M q.odd).2.2 (YQ M q.odd).2.1 (Nat.mod_lt _ (Nat.lt_of_lt_of_le (by decide) q.two)) r0;rw[N6 B M q.odd q.two,SS,Nat.pow_one,show mt A (fm M B) M=A*B%M from Ui A B M q.odd q.two]at h;exact h
theorem ZG {P:Program}{o:Oper}{ρ:Operand->Value}(t:TypeId)(x y:Operand)(u:TypeId)(ho:o.op= .binOp .geq t x y u)(n m:Int)(hx:ρ x= .int .i64 n)(hy:ρ y= .int .i64 m)(b:Bool)(hb:decide (m<=n)=b)(w:World):
  (execOp ρ o).run P w= .ok (.value (.bool b)) w:=by
 subst hb;unfold execOp;simp only[ho,hx,hy];simp[go_sem]
theorem S0 (M:Nat)(h:M<9223372036854775808):Ny M=(M:Int)/\Nz M=true:=by
 unfold Ny Nz;rw[if_pos h,decide_eq_true h];exact⟨rfl,rfl⟩
end Go.Proofs.YtcdahmommonnfaaGreatDoor
