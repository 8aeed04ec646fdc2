import Derived.Test.YtcdahmommonnfaaGreatDoorJ16
import Derived.Lib.SmallJoins
import Derived.Test.YtcdahmommonnfaaGreatDoorTie
import Derived.Test.YtcdahmommonnfaaGreatDoorCards
import Derived.LaidMore
import Derived.Lay
import Derived.SevenTiedAt
import Derived.ChangeMaps5
set_option maxRecDepth 100000
set_option maxHeartbeats 8000000
set_option linter.all false
namespace Go.Proofs.YtcdahmommonnfaaGreatDoor
open Go.RowKit
open Go.Proofs.Tryz
def wsc (b:Nat->Bool):Nat->Nat
 |0=>0
 |k+1=>if b k=true then wsc b k+1 else wsc b k
theorem Vc {b:Nat->Bool}{k:Nat}(h:b k=true):wsc b (k+1)=wsc b k+1:=if_pos h
theorem VT {b:Nat->Bool}{k:Nat}(h:b k=false):wsc b (k+1)=wsc b k:=if_neg (by rw[h];exact Bool.false_ne_true)
theorem Kl (b:Nat->Bool): ∀n,wsc b n<=n
 |0=>Nat.le_refl _
 |n+1=>by
  have:=Kl b n;unfold wsc
  split<;>omega
theorem H2 (b:Nat->Bool)(n:Nat):wsc b n<=wsc b (n+1)/\wsc b (n+1)<=wsc b n+1:=by
 cases e:b n with
 |true=>rw[Vc e];omega
 |false=>rw[VT e];omega
theorem Km {b c:Nat->Bool}: ∀n,(∀j,j<n->b j=true->c j=true)->wsc b n<=wsc c n
 |0,_=>Nat.le_refl _
 |n+1,h=>by
  have h1:=Km n (fun j hj=>h j (by omega))
  cases e:b n with
  |false=>
   rw[VT e];have:=H2 c n;omega
  |true=>rw[Vc e,Vc (h n (Nat.lt_succ_self n) e)];omega
theorem Kn {b c:Nat->Bool}: ∀n,(∀j,j<n->b j=true->c j=false)->wsc b n+wsc c n<=n
 |0,_=>Nat.le_refl _
 |n+1,h=>by
  have h1:=Kn n (fun j hj=>h j (by omega))
  cases e:b n with
  |true=>rw[Vc e,VT (h n (Nat.lt_succ_self n) e)];omega
  |false=>
   rw[VT e];have:=H2 c n;omega
theorem Ko (p:Int->Bool)(Z:Nat->Int): ∀n,ct p Z n=wsc (fun j=>decide (0<=Z j)&&p (Z j)) n
 |0=>rfl
 |n+1=>by
  show(if(decide (0<=Z n)&&p (Z n))=true then ct p Z n+1 else ct p Z n)=if(decide (0<=Z n)&&p (Z n))=true then _ else _
  rw[Ko p Z n]
def wsH (H:Nat->Int)(i:Nat):Nat:=(an (H i) 65535).toNat
def wsQ (L:Nat->Int)(i:Nat):Bool:=decide (an (L i) 3=0)
def wsV (L:Nat->Int)(i:Nat):Nat:=(an (L i/2^2) 1048575).toNat
def wsL (L:Nat->Int)(f:Nat)(i:Nat):Bool:=wsQ L i&&decide (wsc (wsQ L) i<f)
def wsN (L:Nat->Int)(f k:Nat):Nat:=min (wsc (wsQ L) k) f
def wsT (H L:Nat->Int)(f i:Nat):Nat:=if wsL L f i=true then wsV L i else wsH H i
def wsM (H L:Nat->Int)(f:Nat):Nat->Nat
 |0=>0
 |k+1=>if wsL L f k=false then max (wsM H L f k) (wsH H k)else wsM H L f k
theorem Kp (H:Nat->Int)(i:Nat):wsH H i<65536/\an (H i) 65535=(wsH H i:Nat):=by
 obtain⟨b,h1,h2⟩:=VS (H i) 16 (by decide) 65535 (by decide);unfold wsH;rw[h2];exact⟨h1,rfl⟩
theorem H3 (L:Nat->Int)(i:Nat):wsV L i<1048576/\an (L i/2^2) 1048575=(wsV L i:Nat):=by
 obtain⟨b,h1,h2⟩:=VS (L i/2^2) 20 (by decide) 1048575 (by decide);unfold wsV;rw[h2];exact⟨h1,rfl⟩
theorem CL (H L:Nat->Int)(f i:Nat):wsT H L f i<1048576:=by
 have h1:=(Kp H i).1;have h2:=(H3 L i).1;unfold wsT
 split<;>omega
theorem QO {L:Nat->Int}{f k:Nat}(h:wsQ L k=true)(h2:wsN L f k<f):wsL L f k=true/\wsN L f (k+1)=wsN L f k+1:=by
 unfold wsN at*;have h3:wsc (wsQ L) k<f:=by omega
 refine⟨by unfold wsL;rw[h,decide_eq_true h3];rfl,?_⟩;rw[Vc h];omega
theorem Kq {L:Nat->Int}{f k:Nat}(h:wsQ L k=false):wsL L f k=false/\wsN L f (k+1)=wsN L f k:=by
 refine⟨by unfold wsL;rw[h];rfl,?_⟩;unfold wsN;rw[VT h]
theorem Sk {L:Nat->Int}{f k:Nat}(h:wsQ L k=true)(h2: ¬wsN L f k<f):wsL L f k=false/\wsN L f (k+1)=wsN L f k:=by
 unfold wsN at*;have h3: ¬wsc (wsQ L) k<f:=by omega
 refine⟨by unfold wsL;rw[decide_eq_false h3,Bool.and_false],?_⟩;rw[Vc h];omega
theorem Kr (L:Nat->Int)(f:Nat): ∀k,wsc (wsL L f) k=wsN L f k
 |0=>by unfold wsN;show 0=min 0 f;omega
 |k+1=>by
  have h0:=Kr L f k
  cases h:wsQ L k with
  |false=>rw[VT (Kq h).1,(Kq h).2,h0]
  |true=>
   by_cases h2:wsN L f k<f
   ·rw[Vc (QO h h2).1,(QO h h2).2,h0]
   ·rw[VT (Sk h h2).1,(Sk h h2).2,h0]
theorem Ks (L:Nat->Int)(f k:Nat):wsN L f k<=f/\wsN L f k<=k:=by
 have:=Kl (wsQ L) k;unfold wsN;omega
theorem H4 (H L:Nat->Int)(f:Nat): ∀k j,j<k->wsL L f j=false->wsH H j<=wsM H L f k
 |0,j,hj,_=>absurd hj (by omega)
 |k+1,j,hj,h1=>by
  by_cases e:j=k
  ·subst e;rw[show wsM H L f (j+1)=max (wsM H L f j) (wsH H j)from if_pos h1];omega
  ·have:=H4 H L f k j (by omega) h1;unfold wsM
   split<;>omega
theorem Kt (H L:Nat->Int)(f:Nat): ∀k,wsM H L f k<65536
 |0=>(by decide:(0:Nat)<65536)
 |k+1=>by
  have:=Kt H L f k;have:=(Kp H k).1;unfold wsM
  split<;>omega
def wsR (H L:Nat->Int)(f:Nat)(x:Nat)(j:Nat):Bool:= !wsL L f j&&decide (x<=wsH H j)
def WsZ (H L:Nat->Int)(f n:Nat)(Z:Nat->Int):Prop:= ∀j,j<n->Z j= -1∨Z j=(wsT H L f j:Nat)
theorem Ku {H L:Nat->Int}{f n:Nat}{Z:Nat->Int}(hz:WsZ H L f n Z){j:Nat}(hj:j<n)(h1:wsL L f j=false)(h2:0<=Z j):Z j=(wsH H j:Nat):=by
 rcases hz j hj with h|h
 ·omega
 ·rw[h,show wsT H L f j=wsH H j from if_neg (by rw[h1];exact Bool.false_ne_true)]
theorem Kv {H L:Nat->Int}{f n:Nat}{Z:Nat->Int}(hz:WsZ H L f n Z)(h:voB f n Z=true):0<=voV f n Z/\voV f n Z<=(wsM H L f n:Nat):=by
 obtain⟨h1,h2,h3,h4,h5,j,h6,h7,h8⟩:=D2 h;have hv':voV f n Z=gre Z n f n:=if_pos h;rw[hv'];refine⟨h5,?_⟩;rw[h7]at h5 ⊢;by_cases e: ∃i,i<n/\wsL L f i=false/\0<=Z i/\Z j<=Z i
 ·obtain⟨i,e1,e2,e3,e4⟩:=e;have:=H4 H L f n i e1 e2;have:=Ku hz e1 e2 e3;omega
 ·exfalso
  have hs:wsc (fun i=>decide (0<=Z i)&&Nh (Z j) (Z i)) n<=wsc (wsL L f) n:=Km n fun i hi hb=>by
   rw[Bool.and_eq_true,decide_eq_true_iff]at hb
   cases hl:wsL L f i with
   |true=>rfl
   |false=>exact absurd ⟨i,hi,hl,hb.1,of_decide_eq_true hb.2⟩ e
  rw[Ko]at h8;rw[Kr]at hs;have:=(Ks L f n).1;omega
theorem IZ {H L:Nat->Int}{f n:Nat}{Z:Nat->Int}{x:Nat}(hz:WsZ H L f n Z)(h:voB f n Z=true)(hr:f+1<=wsc (wsR H L f x) n):(x:Int)<=voV f n Z:=by
 obtain⟨h1,h2,h3,h4,h5,_⟩:=D2 h;have hv':voV f n Z=gre Z n f n:=if_pos h;rw[hv'];generalize gre Z n f n=v at*;by_cases e: ∃i,i<n/\wsR H L f x i=true/\(decide (0<=Z i)&&dnZ v (Z i))=true
 ·obtain⟨i,e1,e2,e3⟩:=e;unfold wsR at e2;rw[Bool.and_eq_true,decide_eq_true_iff]at e2 e3;have e4:Z i<=v:=of_decide_eq_true e3.2;have:=Ku hz e1 (by simpa using e2.1) e3.1;omega
 ·exfalso
  have hs:=Kn (b:=wsR H L f x) (c:=fun i=>decide (0<=Z i)&&dnZ v (Z i)) n fun i hi hb=>by
   cases hl:(decide (0<=Z i)&&dnZ v (Z i))with
   |false=>rfl
   |true=>exact absurd ⟨i,hi,hb,hl⟩ e
  rw[Ko]at h4;omega
theorem Ab (H L:Nat->Int)(f n:Nat):WsZ H L f n (fun _=> -1):=fun _ _=>.inl rfl
theorem CM {H L:Nat->Int}{f n i:Nat}{Z:Nat->Int}(hz:WsZ H L f n Z):WsZ H L f n (Yk Z i (wsT H L f i:Nat)):=fun j hj=>by
 unfold Yk;by_cases e:j=i
 ·subst e;rw[if_pos rfl];right
  rcases hz j hj with h|h<;>rw[h]<;>omega
 ·rw[if_neg e];exact hz j hj
def wsG (u:Nat->Nat)(x n:Nat):Nat:=wsc (fun k=>decide (x<=u k)) n
def WsU (H L:Nat->Int)(f k:Nat)(u:Nat->Nat)(m:Nat):Prop:=m+wsN L f k=k/\ ∀x,wsG u x m=wsc (wsR H L f x) k
theorem Ad (H L:Nat->Int)(f:Nat)(u:Nat->Nat):WsU H L f 0 u 0:=⟨(by have:=(Ks L f 0).2;omega),fun _=>rfl⟩
theorem RF {u u2:Nat->Nat}{x:Nat}: ∀n,(∀j,j<n->u j=u2 j)->wsG u x n=wsG u2 x n
 |0,_=>rfl
 |n+1,h=>by
  have h1:=RF (x:=x) n (fun j hj=>h j (by omega));unfold wsG at*;show(if decide (x<=u n)=true then _ else _)=(if decide (x<=u2 n)=true then _ else _)
  rw[h1,h n (Nat.lt_succ_self n)]
theorem EC {H L:Nat->Int}{f k:Nat}{u:Nat->Nat}{m:Nat}(h:WsU H L f k u m)(hl:wsL L f k=true)(hn:wsN L f (k+1)=wsN L f k+1):WsU H L f (k+1) u m:=
 ⟨by have:=h.1;omega,fun x=>by rw[h.2 x,VT];unfold wsR;rw[hl];rfl⟩
theorem H5 {H L:Nat->Int}{f k:Nat}{u u2:Nat->Nat}{m:Nat}(h:WsU H L f k u m)(hl:wsL L f k=false)(hn:wsN L f (k+1)=wsN L f k)(hu: ∀j,j<m->u2 j=u j)(hm:u2 m=wsH H k):WsU H L f (k+1) u2 (m+1):=
 ⟨by have:=h.1;omega,fun x=>by
  have h2:wsG u2 x m=wsc (wsR H L f x) k:=(RF m hu).trans (h.2 x);unfold wsG at*;show(if decide (x<=u2 m)=true then _ else _)=(if wsR H L f x k=true then _ else _)
  rw[h2,hm];unfold wsR;rw[hl]
  rfl⟩
end Go.Proofs.YtcdahmommonnfaaGreatDoor
namespace Go.Proofs.YtcdahmommonnfaaGreatDoor
open Go.RowKit Go.Proofs.Tryz
def wqc (q:Nat):Int:=if q=0 then 0 else 2
def wdg (q:Nat):List UInt8:=if q=0 then[]else z32
theorem CN (wh cl op:Int)(key s:List UInt8)(b:Bool)(by' sd:Int)(q:Nat)(w:World):
  Calls prog 17 #[.agg (mkC wh cl op key s b by' sd),.agg (atC 0 3 (q:Nat) 0 false),.agg (tsC 0 0)] w (Rt (.agg (msC 3 op key (q:Nat) (wqc q) (wdg q) none 0 0 none 0 0)) w):=by
 cases q with
 |zero=>exact L9 wh cl op key s b by' sd 0 0 0 w (by decide)
 |succ k=>exact Ka wh cl op key s b by' sd ((k+1:Nat):Int) 0 0 w (by omega)
theorem CO {q:Nat}(h:q<1048576):Tp 3 1 [107] (q:Nat) (wqc q) (wdg q)=true:=by
 unfold Tp;rw[YK (by decide) (by decide)];unfold Wg;rw[if_neg (by decide),if_pos rfl]
 cases q with
 |zero=>rfl
 |succ k=>
  have h1:zsB ((k+1:Nat):Int) (wqc (k+1))=false:=decide_eq_false (fun h=>by have:=h.1;omega);have h2:stB ((k+1:Nat):Int) (wqc (k+1))=true:=decide_eq_true ⟨by omega,by omega,(by decide:(1:Int)<=2),(by decide:(2:Int)<=4)⟩;rw[h1,if_neg Bool.false_ne_true,h2];rfl
def WsS (c:Wc)(H L:Nat->Int)(w:World):Prop:=
 (∃tl s,WsZ H L c.T (3*c.T+1) tl/\c.A w s tl)∨(∃tl s,WsZ H L c.T (3*c.T+1) tl/\voB (c.T:Nat) (3*c.T+1) tl=true/\c.B w s (voV (c.T:Nat) (3*c.T+1) tl+1) (fun _=>false))∨ ∃s,c.D w s 0 0
variable {c:Wc}{w:World}
theorem WsS.below {w2:World}{H L:Nat->Int}(h:WsS c H L w)(hb:Below w.heap.size w w2):WsS c H L w2:=by
 rcases h with ⟨tl,s,hz,hA⟩|⟨tl,s,hz,hv,hB⟩|⟨s,hD⟩
 ·exact .inl ⟨tl,s,hz,hA.below hb⟩
 ·exact .inr (.inl ⟨tl,s,hz,hv,hB.below hb⟩)
 ·exact .inr (.inr ⟨s,hD.below hb⟩)
theorem QP {p y:Nat}{w2:World}(hb:Below w.heap.size w w2):Kept [p,y] w w2:=(Kept.ofBelow hb).more (S:=[]) (T:=[p,y]) (by simp)
theorem ED (o:c.Ok){H L:Nat->Int}(hS:WsS c H L w)(i:Nat)(hi:i<3*c.T+1)(hop:c.op=1)(hkey:c.key=[107])(q:Nat)(hq:wsT H L c.T i=q):
  c.step i (Kf c 3 (q:Nat) (wqc q) (wdg q)) w fun e w'=>(∃v,e= .returned v)/\WsS c H L w'/\Kept [c.p,c.y] w w':=by
 have hlt:q<1048576:=hq▸CL H L c.T i
 have hm:Tp 3 c.op c.key (q:Nat) (wqc q) (wdg q)=true:=by rw[hop,hkey];exact CO hlt
 rcases hS with ⟨tl,s,hz,hA⟩|⟨tl,s,hz,hv,hB⟩|⟨s,hD⟩
 ·have hz2:=CM (i:=i) hz;rw[hq]at hz2
  cases hvb:voB (c.T:Nat) (3*c.T+1) (Yk tl i (q:Nat))with
  |false=>exact(Kg o hA i hi (q:Nat) _ _ hm (by omega) hvb).mono fun e w' ⟨h1,h2,h3⟩=>⟨⟨_,h1⟩,.inl ⟨_,_,hz2,h2⟩,h3.more (by simp)⟩
  |true=>
   obtain⟨h1,h2⟩:=Kv hz2 hvb;have h9:=Kt H L c.T (3*c.T+1)
   cases hd:dst c.Q s (c.T*c.N)with
   |none=>exact(Cy o hA i hi (q:Nat) _ _ hm (by omega) hvb h1 (by omega) hd).mono fun e w' ⟨vo,h1,h2,h3⟩=>⟨⟨_,h1⟩,.inr (.inr ⟨_,h2⟩),h3⟩
   |some s'=>exact(HU o hA i hi (q:Nat) _ _ hm (by omega) hvb h1 (by omega) s' hd).mono fun e w' ⟨gO,h1,h2,h3,h4⟩=>⟨⟨_,h1⟩,.inr (.inl ⟨_,_,hz2,hvb,h3⟩),h4⟩
 ·exact(Ex o hB i hi (q:Nat) _ _ hm).mono fun e w' ⟨h1,h2⟩=>⟨⟨_,h1⟩,.inr (.inl ⟨tl,s,hz,hv,hB.below h2⟩),QP h2⟩
 ·exact(Kh o hD i hi 3 (q:Nat) _ _ hm).mono fun e w' ⟨h1,h2⟩=>⟨⟨_,h1⟩,.inr (.inr ⟨s,hD.below h2⟩),QP h2⟩
def WsK (c:Wc)(sq:Int)(k ac:Nat)(w:World):Prop:=(∃s an,c.B w s sq an/\cnT an 7=ac/\ac<=2*c.T/\ ∀j,k<=j->an j=false)∨(∃s,c.D w s sq c.cl)/\2*c.T+1<=ac
theorem WsK.below {w2:World}{sq:Int}{k ac:Nat}(h:WsK c sq k ac w)(hb:Below w.heap.size w w2):WsK c sq k ac w2:=by
 rcases h with ⟨s,an,hB,h2⟩|⟨⟨s,hD⟩,h2⟩
 ·exact .inl ⟨s,an,hB.below hb,h2⟩
 ·exact .inr ⟨⟨s,hD.below hb⟩,h2⟩
theorem WsK.up {sq:Int}{k ac:Nat}(h:WsK c sq k ac w):WsK c sq (k+1) ac w:=by
 rcases h with ⟨s,an,hB,h1,h2,h3⟩|h
 ·exact .inl ⟨s,an,hB,h1,h2,fun j hj=>h3 j (by omega)⟩
 ·exact .inr h
theorem Kw {an:Nat->Bool}{k:Nat}(h:an k=false): ∀n,cnT (Vf an k) n=cnT an n+if k<n then 1 else 0
 |0=>rfl
 |n+1=>by
  have h0:=Kw h n;by_cases e:n=k
  ·subst e;rw[QH (by unfold Vf;rw[if_pos rfl]),QI h,h0,if_neg (Nat.lt_irrefl _),if_pos (Nat.lt_succ_self _)]
  ·have e2:Vf an k n=an n:=if_neg e
   have e3:(if k<n+1 then 1 else 0)=if k<n then 1 else 0:=by
    by_cases h1:k<n
    ·rw[if_pos h1,if_pos (by omega)]
    ·rw[if_neg h1,if_neg (by omega)]
   rw[e3]
   cases e4:an n with
   |true=>rw[QH (e2.trans e4),QH e4,h0];omega
   |false=>rw[QI (e2.trans e4),QI e4,h0]
theorem H6 (B:Nat->Bool): ∀n,cnF B n+cnT B n=n
 |0=>rfl
 |n+1=>by
  have h0:=H6 B n
  cases e:B n with
  |true=>rw[QH e,IK e];omega
  |false=>rw[QI e,Eb e];omega
theorem P7 (B:Nat->Bool)(n:Nat): ∀m,cnT B n<=cnT B (n+m)
 |0=>Nat.le_refl _
 |m+1=>by
  have h0:=P7 B n m
  cases e:B (n+m)with
  |true=>rw[show n+(m+1)=(n+m)+1 by omega,QH e];omega
  |false=>rw[show n+(m+1)=(n+m)+1 by omega,QI e];omega
theorem CP (o:c.Ok){sq:Int}{k ac:Nat}(hK:WsK c sq k ac w)(hk:k<3*c.T+1)(hm:Tp 7 c.op c.key sq c.cl []=true):
  c.step k (Kf c 7 sq c.cl []) w fun e w'=>(∃vo,e= .returned (.tuple #[vo,.bool (decide (ac+1=2*c.T+1)),.int .i64 0]))/\WsK c sq (k+1) (ac+1) w'/\Kept [c.p,c.y] w w':=by
 have hT:=o.t2;rcases hK with ⟨s,an,hB,h1,h2,h3⟩|⟨⟨s,hD⟩,h2⟩
 ·have hn:cnT (Vf an k) 7=ac+1:=by rw[Kw (h3 k (Nat.le_refl _)),h1,if_pos (by omega)]
  have h4: ∀j,k+1<=j->Vf an k j=false:=fun j hj=>by
   unfold Vf;rw[if_neg (by omega)];exact h3 j (by omega)
  by_cases hlt:ac+1<2*c.T+1
  ·rw[decide_eq_false (by omega)];exact(Cz o hB k hk hm (by rw[hn];exact hlt)).mono fun e w' ⟨x1,x2,x3⟩=>⟨⟨_,x1⟩,.inl ⟨s,_,x2,hn,by omega,h4⟩,x3.more (by simp)⟩
  ·rw[decide_eq_true (by omega)];exact(CA o hB k hk hm (by rw[hn];omega)).mono fun e w' ⟨vo,x1,x2,x3⟩=>⟨⟨vo,x1⟩,.inr ⟨⟨s,x2⟩,by omega⟩,x3.more (by simp)⟩
 ·rw[decide_eq_false (by omega)];exact(Kh o hD k hk 7 sq c.cl [] hm).mono fun e w' ⟨x1,x2⟩=>⟨⟨_,x1⟩,.inr ⟨⟨s,hD.below x2⟩,by omega⟩,QP x2⟩
theorem EE (o:c.Ok){sq:Int}{k ac:Nat}(hK:WsK c sq k ac w):
  Calls prog 22 #[.pointer (some ⟨c.p,0,none⟩)] w fun e w'=> ∃a m cp,e= .returned (.slice a m cp)/\decide ((m:Int)=0)=decide (((2*c.T+1:Nat):Int)<=(ac:Nat))/\Below w.heap.size w w':=by
 have hT:=o.t2;rcases hK with ⟨s,an,hB,h1,h2,h3⟩|⟨⟨s,hD⟩,h2⟩
 ·refine(HY o hB).mono fun e w' ⟨m,⟨g,he⟩,hm,hb⟩=>⟨_,m,_,he,?_,hb⟩
  have x1:=H6 an (3*c.T+1);have x2:=P7 an (3*c.T+1) (7-(3*c.T+1));rw[show 3*c.T+1+(7-(3*c.T+1))=7 by omega,h1]at x2;rw[decide_eq_false (by omega),decide_eq_false (by omega)]
 ·refine(CB hD).mono fun e w' ⟨he,hb⟩=>⟨none,0,0,he,?_,hb⟩
  rw[decide_eq_true (by omega),decide_eq_true (by omega)]
end Go.Proofs.YtcdahmommonnfaaGreatDoor
namespace Go.Proofs.YtcdahmommonnfaaGreatDoor
open Go.RowKit Go.Proofs.Tryz
theorem I0 (z:Int)(m c T gb:Nat)(u:Nat->Nat)(cur:Array Value)(tb:TypeId)(w:World)(rB:WD w gb cur tb)(hbt: ∀i,i<m->cur[0+i*1]?=some (.int .i64 (u i:Nat)))(hm:m<=1000)(hT:T<=1000)(h: ∀i,i<m->T<wsG u (u i) m->(u i:Int)<z):
  Calls prog 24 #[.int .i64 z,.slice (some ⟨gb,0,none⟩) m c,.int .i64 (T:Nat)] w fun e w'=>e= .returned (.bool true)/\Below w.heap.size w w':=by
 go_enter func24,ntmps24
 have sb:=Z9 w;iterate 2 go_step
 refine rp ?_;refine p_v (.bool false) (fun _=>rfl) (Za ?_);simp only[pv];iterate 4 go_step
 refine rp ?_;refine p_v (.int .i64 0) (fun _=>rfl) (Za ?_);simp only[pv]
 go_wp2_with fail
 go_loopg [7,8,9] m (fun x s7 s8 s9 wr=> ∃i:Nat,i+x=m/\s7= .int .i64 i/\Below w.heap.size w wr)
 case atStart=>exact⟨0,by omega,rfl,sb⟩
 case round=>
  clear sb;obtain⟨i,hi,rfl,sb⟩:=hrel
  cases gk with
  |zero=>
   obtain rfl:i=m:=by omega
   clear hi;iterate 2 go_step
   refine rp ?_;refine p_m ?_;refine p_m ?_;simp only[pv];refine p_v _ (n_l (some ⟨gb,0,none⟩) i c XI) ?_;refine p_v _ (Xy i i) (Za ?_);simp only[pv];iterate 7 go_step
   refine rp ?_;refine p_v (.bool true) (fun _=>rfl) (Za ?_);simp only[pv];go_wp2;go_ret;exact⟨rfl,sb⟩
  |succ x=>
   have hlt:i<m:=by omega
   iterate 2 go_step
   refine rp ?_;refine p_m ?_;refine p_m ?_;simp only[pv];refine p_v _ (n_l (some ⟨gb,0,none⟩) m c XI) ?_;refine p_v _ (XK i m) (Za ?_);simp only[pv];iterate 9 go_step
   refine rp ?_;refine p_v (.int .i64 0) (fun _=>rfl) (Za ?_);simp only[pv];iterate 4 go_step
   refine rp ?_;refine p_v (.int .i64 0) (fun _=>rfl) (Za ?_);simp only[pv]
   go_wp2_with fail
   go_loopg [8,9] m (fun y s8 s9 wr=> ∃k:Nat,k+y=m/\s9= .int .i64 k/\s8= .int .i64 (wsG u (u i) k:Nat)/\Below w.heap.size w wr)
   case atStart=>exact⟨0,by omega,rfl,rfl,sb⟩
   case round=>
    clear sb;obtain⟨k,hk,rfl,rfl,sb⟩:=hrel
    cases gk with
    |zero=>
     obtain rfl:k=m:=by omega
     clear hk;iterate 2 go_step
     refine rp ?_;refine p_m ?_;refine p_m ?_;simp only[pv];refine p_v _ (n_l (some ⟨gb,0,none⟩) k c XI) ?_;refine p_v _ (Xy k k) (Za ?_);simp only[pv];by_cases hg:T<wsG u (u i) k
     ·have hz:=h i hlt hg;iterate 7 go_step
      refine rp ?_;refine p_m ?_;refine p_m ?_;simp only[pv];refine p_v _ (Jp (wsG u (u i) k:Nat) (T:Nat)) ?_;refine p_m ?_;refine p_m ?_;refine p_m ?_;refine p_m ?_;simp only[pv];refine p_x i hlt underlying62 sizeOf3 ?_;simp only[pv];refine p_d (0+i*1) (rB.belowAll sb) (.int .i64 (u i:Nat)) (hbt i hlt) isAgg3 ?_;simp only[pv];refine p_v _ (Yb _ _ _ _ rfl z (u i:Nat) rfl rfl false (decide_eq_false (by omega))) ?_;refine p_k true (.bool false) (Za ?_);simp only[pv];iterate 6 go_step
      refine rp ?_;refine p_m ?_;simp only[pv];refine p_v _ (x_a i 1) ?_;refine p_a (Za ?_);simp only[pv];go_wp2
      go_roundg x
      case measure=>omega
      case rel=>exact⟨i+1,by omega,rfl,sb⟩
     ·skip
      iterate 7 go_step
      refine rp ?_;refine p_m ?_;refine p_m ?_;simp only[pv];refine p_v _ (Qe (wsG u (u i) k:Nat) (T:Nat)) ?_;refine p_m ?_;refine p_s ?_;refine p_s ?_;refine p_s ?_;simp only[pv];refine p_s ?_;refine p_s ?_;refine p_s ?_;refine p_k false (.bool false) (Za ?_);simp only[pv];iterate 6 go_step
      refine rp ?_;refine p_m ?_;simp only[pv];refine p_v _ (x_a i 1) ?_;refine p_a (Za ?_);simp only[pv];go_wp2
      go_roundg x
      case measure=>omega
      case rel=>exact⟨i+1,by omega,rfl,sb⟩
    |succ y=>
     have hlk:k<m:=by omega
     have rB2:=rB.belowAll sb;iterate 2 go_step
     refine rp ?_;refine p_m ?_;refine p_m ?_;simp only[pv];refine p_v _ (n_l (some ⟨gb,0,none⟩) m c XI) ?_;refine p_v _ (XK k m) (Za ?_);simp only[pv];obtain⟨B,hB⟩: ∃B,decide (u i<=u k)=B:=⟨_,rfl⟩
     have hG:wsG u (u i) (k+1)=if B=true then wsG u (u i) k+1 else wsG u (u i) k:=by rw[<-hB];rfl
     have hB':decide (((u k:Nat):Int)>=((u i:Nat):Int))=B:=by rw[<-hB];exact decide_eq_decide.2 (by omega)
     clear hB;have hgl:wsG u (u i) k<=k:=Kl _ _;iterate 9 go_step
     refine ZF (by kernel_rfl) (by kernel_rfl) ?_;refine q_m ?_;refine q_m ?_;simp only[pv];refine q_x k hlk underlying62 sizeOf3 ?_;simp only[pv];refine XN (by rfl) 3 _ rfl _ (0+k*1) rfl rB2 (.int .i64 (u k:Nat)) (hbt k hlk) isAgg3 ?_;refine q_m ?_;refine q_m ?_;simp only[pv];refine q_x i hlt underlying62 sizeOf3 ?_;simp only[pv];refine XN (by rfl) 3 _ rfl _ (0+i*1) rfl rB2 (.int .i64 (u i:Nat)) (hbt i hlt) isAgg3 ?_;simp only[pv];refine q_v _ (ZG _ _ _ _ rfl (u k:Nat) (u i:Nat) rfl rfl B hB') ?_;simp only[pv];refine Z2 ?_;intro w8 hqb;replace sb:=b_o sb hqb;clear hqb
     cases B with
     |true=>
      iterate 3 go_step
      refine rp ?_;refine p_m ?_;simp only[pv];refine p_v _ (x_a (wsG u (u i) k) 1) ?_;refine p_a (Za ?_);simp only[pv];iterate 2 go_step
      refine rp ?_;refine p_m ?_;simp only[pv];refine p_v _ (x_a k 1) ?_;refine p_a (Za ?_);simp only[pv];go_wp2
      go_roundg y
      case measure=>omega
      case rel=>exact⟨k+1,by omega,rfl,by rw[hG];rfl,sb⟩
     |false=>
      iterate 6 go_step
      refine rp ?_;refine p_m ?_;simp only[pv];refine p_v _ (x_a k 1) ?_;refine p_a (Za ?_);simp only[pv];go_wp2
      go_roundg y
      case measure=>omega
      case rel=>exact⟨k+1,by omega,rfl,by rw[hG];rfl,sb⟩
theorem EF (z:Int)(c T:Nat)(ab:Option Addr)(w:World):
  Calls prog 24 #[.int .i64 z,.slice ab 0 c,.int .i64 (T:Nat)] w fun e w'=>e= .returned (.bool true)/\Below w.heap.size w w':=by
 go_enter func24,ntmps24
 have sb:=Z9 w;iterate 2 go_step
 refine rp ?_;refine p_v (.bool false) (fun _=>rfl) (Za ?_);simp only[pv];iterate 4 go_step
 refine rp ?_;refine p_v (.int .i64 0) (fun _=>rfl) (Za ?_);simp only[pv]
 go_wp2_with fail
 go_loopg [7,8,9] 0 (fun x s7 s8 s9 wr=>s7= .int .i64 0/\Below w.heap.size w wr)
 case atStart=>exact⟨rfl,sb⟩
 case round=>
  clear sb;obtain⟨rfl,sb⟩:=hrel;iterate 2 go_step
  refine rp ?_;refine p_m ?_;refine p_m ?_;simp only[pv];refine p_v _ (n_l ab 0 c XI) ?_;refine p_v _ (Xy 0 0) (Za ?_);simp only[pv];iterate 7 go_step
  refine rp ?_;refine p_v (.bool true) (fun _=>rfl) (Za ?_);simp only[pv];go_wp2;go_ret;exact⟨rfl,sb⟩
theorem EG (z:Int)(v:Value)(m T base:Nat)(u:Nat->Nat)(w:World)(hO:T1 w base v m u)(hm:m<=1000)(hT:T<=1000)(h: ∀i,i<m->T<wsG u (u i) m->(u i:Int)<z):
  Calls prog 24 #[.int .i64 z,v,.int .i64 (T:Nat)] w (Rt (.bool true) w):=by
 obtain⟨ab,c,rfl⟩:=YW hO;obtain⟨-,gb,cur,hN⟩:=Ri hO;rcases hN.at' with h0|⟨rfl,rB,hbt⟩
 ·subst h0;exact EF z c T ab w
 ·exact I0 z m c T gb u cur _ w rB hbt hm hT h
open Go.ChangeShapes Go.WideShapes Go.ChangeAt Go.RowKit
theorem Kx:prog.cellsOf 3=1:=by kernel_rfl
theorem CQ:prog.cellsOf 9=1:=by kernel_rfl
theorem CS:prog.cellsOf 4=1:=by kernel_rfl
theorem Ae:prog.cellsOf 23=8:=by kernel_rfl
theorem Af (l:List Value)(h:l.length=8): ∃a b c d e f g i,l=[a,b,c,d,e,f,g,i]:=by
 rcases l with _|⟨a,_|⟨b,_|⟨c,_|⟨d,_|⟨e,_|⟨f,_|⟨g,_|⟨i,_|⟨j,l⟩⟩⟩⟩⟩⟩⟩⟩⟩
 all_goals first|exact⟨_,_,_,_,_,_,_,_,rfl⟩|simp at h
theorem Kz {H:Type}{enc:TypeId×Value->H}{W:World}{base:Nat}{v0:Value}{d0:DataW H}{p0:List MemPlace}
  (hv:Value.okWide prog W .any base 23 v0)(h0:DataW.Trod enc prog W 0 (fun _=>true) true 23 v0 d0 p0):
  ∃(wh cl op:Int) (key s:List UInt8) (b:Bool) (by' sd:Int),v0= .agg (mkC wh cl op key s b by' sd):=by
 obtain⟨cs,rfl,hsz⟩:=okWide_struct underlying23 hv;rw[Ae]at hsz;obtain⟨l⟩:=cs;obtain⟨c0,c1,c2,c3,c4,c5,c6,c7,rfl⟩:=Af l (by simpa using hsz);obtain⟨fuel,hf⟩:=h0;obtain⟨xs,k,_,_,_,hlen,hg⟩:=DataW.trod_struct underlying23 hf;have hx: ∀i,i<8-> ∃y,xs[i]?=some y:=fun i hi=>⟨xs[i]'(by rw[hlen];exact hi),List.getElem?_eq_getElem _⟩
 obtain⟨y0,e0⟩:=hx 0 (by decide);obtain⟨y1,e1⟩:=hx 1 (by decide);obtain⟨y2,e2⟩:=hx 2 (by decide);obtain⟨y3,e3⟩:=hx 3 (by decide);obtain⟨y4,e4⟩:=hx 4 (by decide);obtain⟨y5,e5⟩:=hx 5 (by decide);obtain⟨y6,e6⟩:=hx 6 (by decide);obtain⟨y7,e7⟩:=hx 7 (by decide);have g0:DataW.trod enc prog W 0 (fun _=>true) true k 3 (([c0,c1,c2,c3,c4,c5,c6,c7].drop 0).take (prog.cellsOf 3))=some y0:=(hg 0 _ rfl).trans e0;have g1:DataW.trod enc prog W 0 (fun _=>true) true k 3 (([c0,c1,c2,c3,c4,c5,c6,c7].drop 1).take (prog.cellsOf 3))=some y1:=(hg 1 _ rfl).trans e1;have g2:DataW.trod enc prog W 0 (fun _=>true) true k 3 (([c0,c1,c2,c3,c4,c5,c6,c7].drop 2).take (prog.cellsOf 3))=some y2:=(hg 2 _ rfl).trans e2;have g3:DataW.trod enc prog W 0 (fun _=>true) true k 9 (([c0,c1,c2,c3,c4,c5,c6,c7].drop 3).take (prog.cellsOf 9))=some y3:=(hg 3 _ rfl).trans e3;have g4:DataW.trod enc prog W 0 (fun _=>true) true k 9 (([c0,c1,c2,c3,c4,c5,c6,c7].drop 4).take (prog.cellsOf 9))=some y4:=(hg 4 _ rfl).trans e4;have g5:DataW.trod enc prog W 0 (fun _=>true) true k 4 (([c0,c1,c2,c3,c4,c5,c6,c7].drop 5).take (prog.cellsOf 4))=some y5:=(hg 5 _ rfl).trans e5;have g6:DataW.trod enc prog W 0 (fun _=>true) true k 3 (([c0,c1,c2,c3,c4,c5,c6,c7].drop 6).take (prog.cellsOf 3))=some y6:=(hg 6 _ rfl).trans e6;have g7:DataW.trod enc prog W 0 (fun _=>true) true k 3 (([c0,c1,c2,c3,c4,c5,c6,c7].drop 7).take (prog.cellsOf 3))=some y7:=(hg 7 _ rfl).trans e7;clear hg hx e0 e1 e2 e3 e4 e5 e6 e7;rw[Kx]at g0 g1 g2 g6 g7;rw[CQ]at g3 g4;rw[CS]at g5;obtain⟨wh,i0,_,_⟩:=DataW.trod_int underlying3 g0;obtain⟨cl,i1,_,_⟩:=DataW.trod_int underlying3 g1;obtain⟨op,i2,_,_⟩:=DataW.trod_int underlying3 g2;obtain⟨sk,i3,_,_⟩:=DataW.trod_string underlying9 g3;obtain⟨ss,i4,_,_⟩:=DataW.trod_string underlying9 g4;obtain⟨b,i5,_⟩:=DataW.trod_bool underlying4 g5;obtain⟨by',i6,_,_⟩:=DataW.trod_int underlying3 g6;obtain⟨sd,i7,_,_⟩:=DataW.trod_int underlying3 g7;obtain⟨⟨key⟩⟩:=sk;obtain⟨⟨s⟩⟩:=ss;have q0:c0= .int .i64 wh:=by simpa[Value.cells]using i0
 have q1:c1= .int .i64 cl:=by simpa[Value.cells]using i1
 have q2:c2= .int .i64 op:=by simpa[Value.cells]using i2
 have q3:c3= .string ⟨⟨key⟩⟩:=by simpa[Value.cells]using i3
 have q4:c4= .string ⟨⟨s⟩⟩:=by simpa[Value.cells]using i4
 have q5:c5= .bool b:=by simpa[Value.cells]using i5
 have q6:c6= .int .i64 by':=by simpa[Value.cells]using i6
 have q7:c7= .int .i64 sd:=by simpa[Value.cells]using i7
 exact⟨wh,cl,op,key,s,b,by',sd,by rw[q0,q1,q2,q3,q4,q5,q6,q7];rfl⟩
theorem Ag:prog.cellsOf 76=14:=by kernel_rfl
theorem AY:prog.cellsOf 75=7:=by kernel_rfl
theorem AZ:prog.cellsOf 77=2:=by kernel_rfl
def ziC (n:Nat)(Z:Nat->Int):Array Value:=Array.ofFn (n:=n) fun i=>.int .i64 (Z i)
theorem I1 (n:Nat)(Z:Nat->Int):(ziC n Z).size=n:=by simp[ziC]
theorem KA {n:Nat}(Z:Nat->Int){i:Nat}(hi:i<n):(ziC n Z)[i]?=some (.int .i64 (Z i)):=by simp[ziC,hi]
theorem EH {H:Type}{enc:TypeId×Value->H}{W:World}{base:Nat}{v0:Value}{d0:DataW H}{p0:List MemPlace}
  (hv:Value.okWide prog W .any base 76 v0)(h0:DataW.Trod enc prog W 0 (fun _=>true) true 76 v0 d0 p0):
  ∃L:Nat->Int,v0= .agg (ziC 14 L):=by
 obtain⟨cs,rfl,hsz,_⟩: ∃cs,v0= .agg cs/\cs.size=prog.cellsOf 76/\Row.okWide prog W .any base 76 cs:=by
  simpa[Value.okWide,underlying76]using hv
 rw[Ag]at hsz;obtain⟨fuel,hf⟩:=h0;obtain⟨xs,m,_,_,_,hl,hg⟩:=DataW.trod_array underlying76 hf
 have hs: ∀i,i<14-> ∃z:Int,cs[i]?=some (.int .i64 z):=by
  intro i hi;have h1:=hg (i/7) (by omega);rw[AY]at h1;have e0:xs[i/7]?=some (xs[i/7]'(by omega)):=List.getElem?_eq_getElem (by omega);obtain⟨ys,m2,_,_,_,hl2,hg2⟩:=DataW.trod_array underlying75 (h1.trans e0);have h3:=hg2 (i%7) (by omega);rw[Kx]at h3;have e3:ys[i%7]?=some (ys[i%7]'(by omega)):=List.getElem?_eq_getElem (by omega);obtain⟨z,i0,_,_⟩:=DataW.trod_int underlying3 (h3.trans e3);refine⟨z,?_⟩
  have h2:(((((Value.agg cs).cells.toList.drop (i/7*7)).take 7).drop (i%7*1)).take 1)[0]?=some (.int .i64 z):=by rw[i0];rfl
  rw[List.getElem?_take_of_lt (by omega),List.getElem?_drop,List.getElem?_take_of_lt (by omega),List.getElem?_drop,show i/7*7+(i%7*1+0)=i by omega]at h2
  simpa[Value.cells]using h2
 obtain⟨L,hL⟩:=Deep.choose_lt hs;refine⟨L,?_⟩
 congr 1
 apply Array.ext_getElem?;intro i;by_cases hi:i<14
 ·rw[hL i hi,KA L hi]
 ·rw[Array.getElem?_eq_none (by omega),Array.getElem?_eq_none (by rw[I1];omega)]
theorem EI {H:Type}{enc:TypeId×Value->H}{W:World}{base:Nat}{v0:Value}{d0:DataW H}{p0:List MemPlace}
  (hv:Value.okWide prog W .any base 77 v0)(h0:DataW.Trod enc prog W 0 (fun _=>true) true 77 v0 d0 p0):
  ∃x y:Int,v0= .agg #[.int .i64 x,.int .i64 y]:=by
 obtain⟨cs,rfl,hsz,_⟩: ∃cs,v0= .agg cs/\cs.size=prog.cellsOf 77/\Row.okWide prog W .any base 77 cs:=by
  simpa[Value.okWide,underlying77]using hv
 rw[AZ]at hsz;obtain⟨c0,c1,rfl⟩:=Go.Joins.array2 hsz;obtain⟨fuel,hf⟩:=h0;obtain⟨xs,m,_,_,_,hl,hg⟩:=DataW.trod_array underlying77 hf;have h1:=(hg 0 (by decide)).trans (List.getElem?_eq_getElem (show 0<xs.length by omega));have h2:=(hg 1 (by decide)).trans (List.getElem?_eq_getElem (show 1<xs.length by omega));rw[Kx]at h1 h2;obtain⟨x,e1,_,_⟩:=DataW.trod_int underlying3 h1;obtain⟨y,e2,_,_⟩:=DataW.trod_int underlying3 h2;refine⟨x,y,?_⟩;have e3:c0= .int .i64 x:=by simpa[Value.cells]using e1
 have e4:c1= .int .i64 y:=by simpa[Value.cells]using e2
 rw[e3,e4]
open Go.ChangeShapes Go.WideShapes Go.ChangeAt Go.RowKit
def lk:List (String×DataW Unit):=[("unicode/utf8.acceptRanges",Rows.laid_unicode_utf8_acceptRanges),("unicode/utf8.first",Rows.laid_unicode_utf8_first)]
theorem RH (os:Os)(args:Array Value):((World.laidAll prog os lk).forCall (fun _ _=>0) ⟨#[],args,[]⟩).Shaped prog:=World.shaped_of_ZipB (by kernel_rfl) (by kernel_rfl)
theorem H7 (os:Os)(args:Array Value):laidMetH prog lk ((World.laidAll prog os lk).forCall (fun _ _=>0) ⟨#[],args,[]⟩).memory:=by
 rw[MakeChecks.laidMetH_plain _ _ _ (by kernel_rfl)];exact laidMet_laidAll _ (by kernel_rfl) (by kernel_rfl)
end Go.Proofs.YtcdahmommonnfaaGreatDoor
