/-
  The program's touch of growing, every case, and its step, on hands and channels that are kept whole; lists lie in memory.
-/
import Derived.Test.YtffhjmepfojhnaaGreatT31
import Derived.Test.YtffhjmepfojhnaaGreatT26
import Derived.Laws.EntriesVeiled
import Derived.Test.YtffhjmepfojhnaaGreatT28
import Derived.Test.YtffhjmepfojhnaaGreatT32
import Derived.Test.YtffhjmepfojhnaaGreatT33
import Derived.Shelf.Abstract
import Derived.Test.YtffhjmepfojhnaaGreatT04
import Derived.Test.YtffhjmepfojhnaaGreatT22
import Derived.Test.YtffhjmepfojhnaaGreatT29
import Derived.Test.YtffhjmepfojhnaaGreatT21
import Derived.Test.YtffhjmepfojhnaaGreatT02
import Derived.Test.YtffhjmepfojhnaaGreatT05
import Derived.Test.YtffhjmepfojhnaaGreatT16
set_option maxRecDepth 100000
set_option maxHeartbeats 4000000
set_option linter.unusedSimpArgs false
set_option linter.unusedVariables false
namespace Go.Proofs.YtffhjmepfojhnaaGreat
open _root_.Go.Proofs.Tryz
section
open Go.RowKit
attribute [local simp] dz
attribute [local go_sem ↓] dA fU dO gW dP gY dW fE bK eO
theorem gK {c:Ch} {h:Ha}:pK (c,h,true)=done c h:=rfl
theorem qj:pK nothing=nothing:=by simp [pK,nothing,aN,fH,Ch.zero]
theorem ND {c:Ch} {w word:Int} (h:eG c w word=false):cZ c w word=c:=by simp [cZ,h]
theorem QH {h:Ha} (F:aU h=true):0≤h.nxt∧h.nxt≤2:=by
 simp only [aU,yC,Bool.and_eq_true,dK] at F;omega
theorem Kg {h:Ha} (F:aU h=true):0≤h.grow∧h.grow≤39:=by
 simp only [aU,sI,Bool.and_eq_true,dK] at F;omega
theorem QI {h:Ha} (F:aU h=true):0≤h.pos∧h.pos≤25:=by
 simp only [aU,oG,Bool.and_eq_true,dK] at F;omega
theorem NF {c:Ch} (e:aN c=true):0≤c.fin∧c.fin≤40:=by
 simp only [aN,fH,Bool.and_eq_true,dK] at e;omega
theorem Cs (c:Ch) (h:Ha) (hc:aN c=true) (V:aU h=true):∃ x:St,eF c h=pK x∧∀ (v1 v2:Value) (lo:Nat) (W:World),aF W lo v1 c.cells→aI W lo v2 c.words→lo≤W.heap.size→Calls prog 268 #[.agg (aH c v1 v2),.agg (aB h)] W fun r w'=>eB W w' lo v1 v2 x r:=by
 cases L:(h.code != 2) with
 | true =>
  have T:¬ h.code=2:=by simpa using L
  have U:bC c h 16 22 2=false:=by simp [bC,T]
  exact ⟨nothing,by rw [qj];simp [eF,aW,U],fun v1 v2 lo W F G _=>ED c h v1 v2 lo W F G L⟩
 | false =>
  have T:h.code=2:=by simpa using L
  have N:=QH V;obtain ⟨J,a2⟩:=Kg V;have K:h.grow<c.cells.length:=by have:=(mW hc).1;omega
  by_cases hr:16≤h.pos∧h.pos≤22
  ·have hok:bC c h 16 22 2=true:=by
    have:dV h.pos 16 22=true:=by simp [dV];omega
    simp [bC,hc,V,this,T]
   have H:eD h.code h.elem=true:=by
    have:=V;simp only [aU,oG,Bool.and_eq_true,dK] at this;have R:¬ h.pos=0:=tO;simp [R] at this;exact this.1.2
   have a0:h.pos=16∨h.pos=17∨h.pos=18∨h.pos=19∨h.pos=20∨h.pos=21∨h.pos=22:=tO;rcases a0 with hp|hp|hp|hp|hp|hp|hp
   ·have I:(h.pos == 16)=true:=by simpa using hp
    cases O:(c.cap == 0) with
    | true =>
     refine ⟨(c,bF h,true),?_,fun v1 v2 lo W F G _=>BZ c h v1 v2 lo W F G O H N I L⟩;simp only [eF,aW,hok,hp,ib,O];simp [gK]
    | false =>
     cases Y:(c.fin == 40) with
     | true =>
      refine ⟨(c,bF h,true),?_,fun v1 v2 lo W F G _=>Ca c h v1 v2 lo W F G O Y H N I L⟩;simp only [eF,aW,hok,hp,ib,O,Y];simp [gK]
     | false =>
      refine ⟨({ c with fin:=c.fin+1 },{ h with grow:=c.fin,pos:=17 },true),?_,fun v1 v2 lo W F G _=>Cb c h v1 v2 lo W F G (NF hc) O Y I L⟩;simp only [eF,aW,hok,hp,ib,O,Y];simp [gK]
   ·have I:(h.pos == 17)=true:=by simpa using hp
    by_cases O:c.sent≤h.grow
    ·refine ⟨(c,bF h,true),?_,fun v1 v2 lo W F G _=>Cc c h v1 v2 lo W F G O H N I L⟩
     simp [eF,aW,hok,hp,O,gK]
    ·refine ⟨(c,{ h with pos:=18 },true),?_,fun v1 v2 lo W F G _=>Ce c h v1 v2 lo W F G O I L⟩
     simp [eF,aW,hok,hp,O,gK]
   ·have I:(h.pos == 18)=true:=by simpa using hp
    have em:eF c h=ko c h:=by simp [eF,aW,hok,hp]
    by_cases n5:(cellAt c h.grow).s=5
    ·refine ⟨(c,h,false),?_,fun v1 v2 lo W F G _=>Bl c h v1 v2 lo W F G J K n5 I L⟩
     rw [em];simp [ko,n5,pK,hc,V]
    have X:eF c h=done c (lZ c h):=by rw [em];simp [ko,n5]
    by_cases n0:(cellAt c h.grow).s=0
    ·refine ⟨(c,{ dC h (cellAt c h.grow) with pos:=19 },true),?_,fun v1 v2 lo W F G _=>Bn c h v1 v2 lo W F G J K n0 I L⟩
     rw [X,gK];simp [lZ,n0]
    by_cases Z:(cellAt c h.grow).s=3
    ·refine ⟨(c,{ dC h (cellAt c h.grow) with pos:=19 },true),?_,fun v1 v2 lo W F G _=>Bo c h v1 v2 lo W F G J K Z I L⟩
     rw [X,gK];simp [lZ,Z]
    by_cases n9:(cellAt c h.grow).s=9
    ·refine ⟨(c,{ dC h (cellAt c h.grow) with pos:=16 },true),?_,fun v1 v2 lo W F G _=>Bp c h v1 v2 lo W F G J K n9 I L⟩
     rw [X,gK];simp [lZ,n9]
    ·refine ⟨(c,bF (dC h (cellAt c h.grow)),true),?_,fun v1 v2 lo W F G _=>Bq c h v1 v2 lo W F G J K (by simpa using n5) (by simpa using n0) (by simpa using Z) (by simpa using n9) H N I L⟩
     rw [X,gK];simp [lZ,n0,Z,n9]
   ·have I:(h.pos == 19)=true:=by simpa using hp
    have ep:eF c h=qg c h:=by simp [eF,hok,hp]
    cases hs:(h.seen != 0) with
    | true =>
     refine ⟨qU c h,?_,fun v1 v2 lo W F G _=>Cf c h v1 v2 lo W F G J K hs I L⟩;have R:¬ h.seen=0:=by simpa using hs
     rw [ep];by_cases h3:h.seen=3
     ·simp only [qg,qU,h3,beq_self_eq_true,if_true,VU,kF]
      cases ht:bB c h.grow 3 6 (cellAt c h.grow).t with
      | true=>simp [gK]
      | false=>rw [om ht];simp [gK]
     ·simp [qg,iw,qU,h3,R,qj]
    | false =>
     have R:h.seen=0:=by simpa using hs
     have e8:eF c h=kF c h 1 0 (bF h):=by rw [ep];simp [qg,iw,R]
     cases ht:bB c h.grow 0 1 0 with
     | true =>
      refine ⟨(bU c h.grow 0 1 0,bF h,true),?_,fun v1 v2 lo W F G _=>Cg c h v1 v2 lo W F G J K hs H N ht I L⟩;rw [e8,gK];simp [kF,R,ht]
     | false =>
      refine ⟨(bU c h.grow 0 1 0,{ h with pos:=18 },true),?_,fun v1 v2 lo W F G _=>Br c h v1 v2 lo W F G J K hs ht I L⟩;rw [e8,gK];simp [kF,R,ht]
   ·have I:(h.pos == 20)=true:=by simpa using hp
    refine ⟨Ju c { h with pos:=21 } { h with pos:=22 },?_,fun v1 v2 lo W F G hl=>E9 c h v1 v2 lo W F G hc hl L I⟩;unfold Ju;cases ht:eG c h.wait 1 with
    | true=>simp [eF,aW,hok,hp,uf,ht,gK]
    | false=>simp [eF,aW,hok,hp,uf,ht,gK,ND ht]
   ·have I:(h.pos == 21)=true:=by simpa using hp
    refine ⟨(bZ c h.grow 2,bF h,true),?_,fun v1 v2 lo W F G _=>EB c h v1 v2 lo W F G J K H N I L⟩;simp [eF,aW,hok,hp,gK]
   ·have I:(h.pos == 22)=true:=by simpa using hp
    refine ⟨(bZ c h.grow 9,{ h with pos:=16 },true),?_,fun v1 v2 lo W F G _=>EC c h v1 v2 lo W F G J K I L⟩;simp [eF,aW,hok,hp,gK]
  ·have U:bC c h 16 22 2=false:=by
    have:dV h.pos 16 22=false:=by simp [dV];omega
    simp [bC,this]
   have a1:=QI V;have M:∀ k:Int,16≤k→k≤22→(h.pos == k)=false:=fun k h1 h2=>by simp;omega
   exact ⟨nothing,by rw [qj];simp [eF,aW,U],fun v1 v2 lo W F G _=>Ci c h v1 v2 lo W F G L (M 16 tO tO) (M 17 tO tO) (M 18 tO tO) (M 19 tO tO) (M 20 tO tO) (M 21 tO tO) (M 22 tO tO) dQ⟩
theorem Ct (c:Ch) (h:Ha) (a b:Option Addr) (p q:Nat) (w:World) (h1:gG w w a c.cells) (z1:a=none→p=0) (h2:gI w w b c.words) (L:b=none→q=0) (l1:c.cells.length≤maxLen) (l2:c.words.length≤maxLen) :
  Calls prog 267 #[.agg (aH c (.slice a c.cells p) (.slice b c.words q)),.agg (aB h)] w fun r w'=>dU w w' (eF c h) r:=by
 have K:∀ (w:World),gG w w a c.cells→(a=none→p=0)→gI w w b c.words→(b=none→q=0)→Calls prog 236 #[.func (.func 268) #[] #[],.agg (aH c (.slice a c.cells p) (.slice b c.words q)),.agg (aB h)] w fun r w'=>dU w w' (eF c h) r:=by
  intro w h1 z1 h2 L;cases hc:aN c with
  | false =>
   rw [show eF c h=nothing by simp [eF,aW,bC,hc]]
   exact uH _ c h a b p q w h1 z1 h2 L l1 l2 hc
  | true =>
   cases O:aU h with
   | false =>
    rw [show eF c h=nothing by simp [eF,aW,bC,O]]
    exact uI _ c h a b p q w h1 z1 h2 L l1 l2 hc O
   | true =>
    obtain ⟨x,e,HT⟩:=Cs c h hc O;rw [e];exact uG _ x c h a b p q w h1 z1 h2 L hc O (fun args w=>by simp [go_sem]) HT
 generalize eF c h=x at *;have T:=aA K;have H1:=aA h1;have H2:=aA h2;have Z1:=aA z1;have Z2:=aA L;clear h1 h2 z1 L K;have Z:∀ j,(Value.slice none 0 0).ownBlock=some j→w.heap.size+1+1+1+1≤j:=fun j hj=>by cases hj
 have d2:=Z;go_enter func267,ntmps267;go_wp2_with fail;refine aK w zB fun N=>?_;refine (T.out _ (aT H1 N) Z1.out (aT H2 N) Z2.out).mono ?_;rintro _ w9 ⟨⟨y1,y2,rfl,F,G,R,U⟩,H⟩;obtain ⟨a0,M,Y⟩:=gZ N H (b:=w);(try simp at M);(try simp [go_sem] at Y);replace bX:=fP Y;clear Y H N
 replace F:aF w9 w y1 x.1.cells:=aL F dQ;replace G:aI w9 w y2 x.1.words:=aL G dQ;obtain ⟨⟨I,J⟩,V,X⟩:=BI (w:=w) (w+1+1+1+1) R U Z d2;obtain ⟨ya,yp,rfl,_⟩:=F.seg;obtain ⟨yb,yq,rfl,_⟩:=G.seg;go_wp2;refine rE results267 rfl (bN x.1 (.slice ya x.1.cells yp) (.slice yb x.1.words yq) tY) rfl (aQ x.2.1 tY) ⟨⟨_,_,rfl,?_,?_,V,X⟩,zB⟩
 ·exact zP F F I
 ·exact zP G G J
theorem Kh (c:Ch) (h:Ha) (a b:Option Addr) (p q:Nat) (w:World) (h1:gG w w a c.cells) (z1:a=none→p=0) (h2:gI w w b c.words) (F:b=none→q=0) (G:c.cells.length≤maxLen) (H:c.words.length≤maxLen) :
  Calls prog 158 #[.agg (aH c (.slice a c.cells p) (.slice b c.words q)),.agg (aB h)] w fun r w'=>r=.returned (.bool (gV (fu c h)))∧Below w w w':=by
 rw [← Sk];have hp:h.pos≤0∨(1≤h.pos∧h.pos≤8)∨(9≤h.pos∧h.pos≤15)∨(16≤h.pos∧h.pos≤22)∨(23≤h.pos∧h.pos≤25)∨26≤h.pos:=tO;rcases hp with hp|hp|hp|hp|hp|hp
 ·rw [xW c h (.inl tO)];exact Hq c h a b p q w hp
 ·rw [xW c h (.inl tO)];exact Hr c h a b p q w hp
 ·have e:vF c h=fG c h:=by unfold vF;rw [show dV h.pos 1 8=false by simp [dV];omega,show dV h.pos 9 15=true by simp [dV];omega];rfl
  rw [e,← uJ c h _ tO (JQ c h)];exact Hl _ c h a b p q w h1 z1 h2 F (fun a b p q w h1 z1 h2 F=>Cm c h a b p q w h1 z1 h2 F G H) hp
 ·have e:vF c h=eF c h:=by unfold vF;rw [show dV h.pos 1 8=false by simp [dV];omega,show dV h.pos 9 15=false by simp [dV];omega,show dV h.pos 16 22=true by simp [dV];omega];rfl
  rw [e,← uJ c h _ tO (JR c h)];exact Hm _ c h a b p q w h1 z1 h2 F (fun a b p q w h1 z1 h2 F=>Ct c h a b p q w h1 z1 h2 F G H) hp
 ·have e:vF c h=bJ c h:=by unfold vF;rw [show dV h.pos 1 8=false by simp [dV];omega,show dV h.pos 9 15=false by simp [dV];omega,show dV h.pos 16 22=false by simp [dV];omega];rfl
  rw [e,← uJ c h _ tO (JS c h)];exact Ho _ c h a b p q w h1 z1 h2 F (fun a b p q w h1 z1 h2 F=>Cq c h a b p q w h1 z1 h2 F G H) hp
 ·rw [xW c h (.inr hp)];exact Ht c h a b p q w hp
def kM (c:Ch) (h:Ha):Bool:=h.pos == 23 && gV (fu c h)
theorem EX (c:Ch) (h:Ha) (a b:Option Addr) (p q:Nat) (w:World) (h1:gG w w a c.cells) (z1:a=none→p=0) (h2:gI w w b c.words) (N:b=none→q=0) (L:c.cells.length≤maxLen) (M:c.words.length≤maxLen) :
  Calls prog 107 #[.agg (aH c (.slice a c.cells p) (.slice b c.words q)),.agg (aB h)] w fun r w'=>r=.returned (.bool (kM c h))∧Below w w w':=by
 have G:=aA fun (W:World) (I:Below w w W)=>Kh c h a b p q W ((h1.below I).more I.size) z1 ((h2.below I).more I.size) N L M
 obtain ⟨tb,F⟩:∃ tb,Hid (tb=gV (fu c h)):=⟨_,rfl⟩;rw [← F.out] at G;clear h1 h2 L M;cases H:(h.pos == 23) with
 | false =>
  have e:kM c h=false:=by unfold kM;rw [H];rfl
  rw [e];clear e F G;go_enter func107,ntmps107;go_wp2;go_ret;exact ⟨rfl,zB⟩
 | true =>
  have e:kM c h=tb:=by unfold kM;rw [H,F.out];rfl
  rw [e];clear e F;go_enter func107,ntmps107;go_wp2_with (go_at_call 158;refine aK w zB fun K=>?_;refine (G.out _ K).mono ?_;rintro _ O ⟨rfl,J⟩);go_ret;exact ⟨rfl,bT K J⟩
theorem lX.atQ {w W:World} {x:Wo} {a b d e:Option Addr} (h:lX w w x a b d e) (F:Below w w W):lX W W x a b d e:=⟨(h.1.below F).more F.size,(h.2.1.below F).more F.size,(h.2.2.1.below F).more F.size,(h.2.2.2.below F).more F.size⟩
structure LB (w:World) (B:Nat) (x:Wo) (a b d e:Option Addr) (p q r s:Nat):Prop where
 box:hp w B=some (.cells #[.int .i64 x.ch.cap,.int .i64 x.ch.sent,.int .i64 x.ch.got,.int .i64 x.ch.fin,.slice a x.ch.cells.length p,.slice b x.ch.words.length q,.slice d x.hands.length r,.slice e x.deals.length s,.int .i64 x.now] 35)
 seg:lX w w.heap.size x a b d e
 non:pJ x a b d e p q r s
 len:qi x
theorem LB.on {w W:World} {B:Nat} {x:Wo} {a b d e:Option Addr} {p q r s:Nat} (h:LB w B x a b d e p q r s) (F:Below w w W):LB W B x a b d e p q r s:=⟨(F.block B (bO h.box).2.2).trans h.box,h.seg.atQ F,h.non,h.len⟩
def lU (c:Ch) (h:Ha):Bool:=h.pos != 0 && !kM c h
def jB (k:Int) (h:Ha):Bool:=h.pos == 23 && h.code == k
theorem Vn {c:Ch} {h:Ha} (e:(h.pos != 0)=true):Value.bool (!kM c h)=.bool (lU c h):=by simp [lU,e]
theorem Vo {c:Ch} {h:Ha} (e:(h.pos != 0)=false):Value.bool false=.bool (lU c h):=by simp [lU,e]
theorem Bv (w:World) (G F:Obj):hp ((w.alloc G).alloc F) (w+1)=some F:=by
 have h:=heap_alloc_new (w.alloc G) F
 rwa [World.size_alloc] at h
theorem Ki {w:World} {lo:Nat} {v:Value} {l:List Int} (h:Rc w lo v l):∃ a c,v=.slice a l.length c:=by
 rcases h with ⟨rfl,e⟩|⟨g,c,rfl,_⟩
 ·exact ⟨none,0,by rw [e]⟩
 ·exact ⟨_,_,rfl⟩
theorem Cu (x:Wo) (a b d e:Option Addr) (p q r J B:Nat) (w:World) (H:LB w B x a b d e p q r J) :
  Calls prog 127 #[.agg #[.pointer (some ⟨B,0,none⟩)]] w fun M w'=>M=.returned (.bool (dB x))∧Below w w w':=by
 have G:=aA H;obtain ⟨N,K,L⟩:=bO H.box;clear H;go_enter func127,ntmps127;go_wp2_with (go_at_call 49;refine aK w zB fun I=>?_;refine (Ec x a b d e p q r J _ (G.out.on I).seg G.out.len).mono ?_;rintro _ O ⟨rfl,F⟩);go_ret;exact ⟨rfl,bT I F⟩
theorem rX (x:Wo) (a b d e:Option Addr) (p q r O B:Nat) (w:World) (H:LB w B x a b d e p q r O) :
  Calls prog 159 #[.agg #[.pointer (some ⟨B,0,none⟩)]] w fun N w'=>N=.returned (.int .i64 (keptIn x.ch).length)∧Below w w w':=by
 have F:=aA H;obtain ⟨R,K,J⟩:=bO H.box;have L:=Lb (x:=x) ((Below.heap_alloc w (.cells #[.pointer (some ⟨B,0,none⟩)] 97) B J).trans H.box);clear H;go_enter func159,ntmps159;go_wp2_with (go_at_call 17;refine aK w zB fun G=>?_;refine (JD x.ch a b p q _ (F.out.on G).seg.1 (F.out.on G).seg.2.1 (by have:=F.out.len.1;unfold maxLen;omega) (by have:=F.out.len.2.1;unfold maxLen;omega)).mono ?_;rintro _ U ⟨⟨v,rfl,M⟩,I⟩;obtain ⟨T,c',rfl⟩:=Ki M)
 go_ret;exact ⟨rfl,bT G I⟩
theorem Kj (h:Ha) (k:Int) (B:Nat) (w:World) (z:hp w B=some (.cells #[.int .i64 k] 2)) :
  Calls prog 185 #[.agg (aB h),.pointer (some ⟨B,0,none⟩)] w fun I w'=>I=.returned (.bool (jB k h))∧Below w w w':=by
 obtain ⟨J,F,H⟩:=bO z;unfold jB;cases G:(h.pos == 23) with
 | false =>
  go_enter func185,ntmps185
  go_wp2;go_ret;exact ⟨rfl,zB⟩
 | true =>
  go_enter func185,ntmps185
  go_wp2;go_ret;exact ⟨rfl,zB⟩
theorem TK {P:Ha→Bool} {hs:List Ha} {k:Nat} {h:Ha} (F:k<hs.length) (hc:hs.getD k Ha.zero=h) (e:P h=true):hs.any P=true:=by
 rw [List.any_eq_true];refine ⟨hs[k],List.getElem_mem F,?_⟩;rw [← hc] at e;simpa [List.getD,List.getElem?_eq_getElem F] using e
theorem Vp {P:Ha→Bool} {hs:List Ha} {k:Nat} {h:Ha} (G:k<hs.length) (hc:hs.getD k Ha.zero=h) (e:(hs.take k).any P=false) (F:P h=false):(hs.take (k+1)).any P=false:=by
 rw [lu _ k Ha.zero G,hc,List.any_append,e];simp [F]
theorem Kk (g:Nat) (L lb:Array Value) (P:Ha→Bool) (hs:List Ha) (d:Option Addr) (r:Nat) (w:World) (h3:qX w w d hs) (m:hs.length≤1099511627776)
  (eg:∀ args w,(callFunc g args).run prog w=.ok (.enter g args) w)
  (HP:∀ (W:World) (h:Ha),Below w w W→Calls prog g (L.push (.agg (aB h)) ++ lb) W fun V w'=>V=.returned (.bool (P h))∧Below W W w') :
  Calls prog 193 #[.slice d hs.length r,.func (.func g) L lb] w fun V w'=>(∃ i:Int,V=.returned (.int .i64 i)∧decide (0≤i)=hs.any P)∧Below w w w':=by
 replace HP:=aA HP;go_enter func193,ntmps193;go_wp2_with fail;go_loopw [5,8] (fun _ i wr=>∃ k:Nat,k≤hs.length∧i=.int .i64 k∧Hid ((hs.take k).any P=false)∧Below w w wr) (fun _ i _=>hs.length - (intOf i).toNat)
 case atStart=>exact ⟨0,Nat.zero_le _,rfl,rfl,zB⟩
 case round =>
  obtain ⟨k,hk,rfl,F,I⟩:=hrel;by_cases H:k<hs.length
  ·obtain ⟨Y,o3,rfl,R,J⟩:∃ b o,d=some ⟨b,o,none⟩∧b<w.heap.size∧(∀ i j,i<hs.length→j<14→w.cell? ⟨b,o+i*14+j,none⟩=some (fO hs i j)):=by
    rcases h3 with Z|Z
    ·omega
    ·exact Z
   have M:=fun j T=>J k j H T
   simp only [fO] at M;generalize K:hs.getD k Ha.zero=O at M;have X:=aA K;clear K;have hL:=lJ (w:=wr) (b:=Y) (o:=o3+k*14) O fun j T=>by rw [← M j T];exact World.cell?_of_block (I.block Y R)
   clear M J;have U:(0:Int)≤(k:Int):=tO;have a0:(k:Int)<(hs.length:Int):=tO;cases N:P O with
   | true =>
    go_wp2_with (go_at_fn g;refine (HP.out wr O I).mono ?_;rintro _ w6 ⟨rfl,G⟩;rw [N])
    go_ret;exact ⟨⟨(k:Int),rfl,by rw [TK H X.out N];exact decide_eq_true U⟩,bT I G⟩
   | false =>
    go_wp2_with (go_at_fn g;refine (HP.out wr O I).mono ?_;rintro _ w6 ⟨rfl,G⟩;rw [N])
    go_roundw
    case rel=>exact ⟨k+1,by omega,by go_num,Vp H X.out F.out N,bT I G⟩
    case measure=>simp [intOf];omega
  ·obtain rfl:k=hs.length:=by omega
   go_wp2;go_ret;exact ⟨⟨-1,rfl,by have:=F.out;rw [List.take_length] at this;rw [this];rfl⟩,I⟩
theorem vM (g:Nat) (F H:Array Value) (P:Ha→Bool) (hs:List Ha) (d:Option Addr) (r:Nat) (w:World) (h3:qX w w d hs) (m:hs.length≤1099511627776)
  (K:∀ args w,(callFunc g args).run prog w=.ok (.enter g args) w)
  (HP:∀ (W:World) (h:Ha),Below w w W→Calls prog g (F.push (.agg (aB h)) ++ H) W fun I w'=>I=.returned (.bool (P h))∧Below W W w') :
  Calls prog 174 #[.slice d hs.length r,.func (.func g) F H] w fun I w'=>I=.returned (.bool (hs.any P))∧Below w w w':=by
 have J:=aA (Kk g F H P hs d r w h3 m K HP);clear h3 HP;go_enter func174,ntmps174;go_wp2_with (go_at_call 193;refine J.out.mono ?_;rintro _ M ⟨⟨i,rfl,L⟩,G⟩);go_ret;exact ⟨by first|rfl|exact bQ L,G⟩
theorem ql (x:Wo) (a b d e:Option Addr) (p q r U B:Nat) (w:World) (H:LB w B x a b d e p q r U) (k:Int) :
  Calls prog 160 #[.agg #[.pointer (some ⟨B,0,none⟩)],.int .i64 k] w fun T w'=>T=.returned (.bool (x.hands.any (jB k)))∧Below w w w':=by
 have I:=aA H;obtain ⟨V,N,R⟩:=bO H.box;clear H;have K:∀ args w,(callFunc 185 args).run prog w=.ok (.enter 185 args) w:=enters_of func185 bH rfl;have L:=aA fun (W:World) (C:Nat) (O:Below w w W) (z:hp W C=some (.cells #[.int .i64 k] 2))=>vM 185 #[] #[.pointer (some ⟨C,0,none⟩)] (jB k) x.hands d r W (I.out.on O).seg.2.2.1 (by have:=I.out.len.2.2.1;omega) K (fun M h G=>(Kj h k C M ((G.block C (bO z).2.2).trans z):Calls prog _ #[_,_] _ _))
 clear K;go_enter func160,ntmps160;go_wp2_with (go_at_call 174;refine aK w zB fun J=>?_;refine (L.out _ (w+1) J (Bv _ _ _)).mono ?_;rintro _ X ⟨rfl,F⟩);go_ret;exact ⟨rfl,bT J F⟩
theorem EY (x:Wo) (a b d e:Option Addr) (p q r v0 B:Nat) (w:World) (H:LB w B x a b d e p q r v0) (h:Ha) :
  Calls prog 175 #[.agg #[.pointer (some ⟨B,0,none⟩)],.agg (aB h)] w fun r' w'=>r'=.returned (.bool (lU x.ch h))∧Below w w w':=by
 have N:=aA H;clear H;go_enter func175,ntmps175;go_wp2_with fail;generalize M:World.alloc _ _=w5;have X:hp w5 w=some (.cells #[.pointer (some ⟨B,0,none⟩)] 97):=by rw [← M];exact (Below.heap_alloc _ _ _ cK).trans (heap_alloc_new _ _)
 have O:hp w5 (w+1)=some (.cells (aB h) 49):=by rw [← M];have e:=heap_alloc_new (World.alloc w (.cells #[.pointer (some ⟨B,0,none⟩)] 97)) (.cells (aB h) 49);rwa [World.size_alloc] at e
 have Im:Below w w w5:=by rw [← M];exact (bL _ _).trans ((bL _ _).mono cK)
 clear M;have V:=(N.out.on Im).box;refine lh [[],[0],[0,1],[0,1,2],[0,1,2,3],[0,1,2,3,4],[0,1,2,3,4,5],[0,1,2,3,4,5,6],qB [],[0,1,2,3],qB [8,9],qB [8,9,10],qB [8,9,10,11],qB [8,9,10,11,12]] [5,6,7,8,9,10,11,12,13,14,15,16,17,4] (fun l s Y=>(Below w5 w5 Y)∧(l 0=true→s 5=.pointer (some ⟨w+1,0,none⟩))∧(l 1=true→s 6=.int .i64 h.pos)∧(l 2=true→s 7=.bool (h.pos != 0))∧(l 3=true→s 8=.bool (h.pos != 0))∧(l 4=true→(h.pos != 0)=true→s 9=.pointer (some ⟨w,0,none⟩))∧(l 5=true→(h.pos != 0)=true→s 10=.pointer (some ⟨B,0,none⟩))∧(l 6=true→(h.pos != 0)=true→s 11=.pointer (some ⟨B,0,none⟩))∧(l 7=true→(h.pos != 0)=true→s 12=.pointer (some ⟨B,0,none⟩))∧(l 8=true→(h.pos != 0)=true→s 13=.agg (aH x.ch (.slice a x.ch.cells p) (.slice b x.ch.words q)))∧(l 9=true→(h.pos != 0)=true→s 14=.agg (aB h))∧(l 10=true→(h.pos != 0)=true→s 15=.bool (kM x.ch h))∧(l 11=true→(h.pos != 0)=true→s 16=.bool (!kM x.ch h))∧(l 12=true→s 17=.bool (lU x.ch h))∧(l 13=true→s 4=.bool (lU x.ch h))) (fun s=>⟨(Below.refl _ _).drew,nB,nB,nB,nB,nB,nB,nB,nB,nB,nB,nB,nB,nB,nB⟩) ?_ ?_
 refine ⟨?_,?_,?_,?_,?_,?_,?_,?_,?_,?_,?_,?_,?_,?_,trivial⟩;iterate 14 (intro l s Y hl J U hf K I;rotate_left)
 ·intro l s w6 yz hf
  have ec:=(jC (jD hf)).2.2 (yz 13 rfl);exact KC
 ·go_simp
  refine I.out (upd s 5 (.pointer (some ⟨w+1,0,none⟩))) _ _ gM (kA (kX (fun _=>rfl) id) hf.out)
 ·have Z:=(hf.out.2.1 (J 0 rfl))
  have z:=(bO (iC O hf.out.1)).1 0;go_simp;refine I.out (upd s 6 (.int .i64 h.pos)) _ _ (by simp [aX,Z] <;> rfl) (kB (kX (fun _=>rfl) id) hf.out)
 ·have e1:=(hf.out.2.2.1 (J 1 rfl))
  go_simp;refine I.out (upd s 7 (.bool (h.pos != 0))) _ _ pQ (kB (kA (kX (fun _=>rfl) id)) hf.out)
 ·have e2:=(hf.out.2.2.2.1 (J 2 rfl))
  go_simp;refine I.out (upd s 8 (.bool (h.pos != 0))) _ _ wR (kC (kX (fun _=>rfl) id) hf.out)
 ·have F:=(hf.out.2.2.2.2.1 (J 3 rfl))
  cases G:((h.pos != 0)) with
  | true =>
   rw [G] at F;go_simp;refine I.out (upd s 9 (.pointer (some ⟨w,0,none⟩))) _ _ kY (kC (kA (kX (fun _ _=>rfl) id)) hf.out)
  | false =>
   rw [G] at F;go_simp;refine I.out (upd s 9 (undef)) _ _ kY (kC (kA (kX (fun _ h=>Bool.noConfusion (h.symm.trans G)) id)) hf.out)
 ·have F:=(hf.out.2.2.2.2.1 (J 3 rfl))
  cases G:((h.pos != 0)) with
  | true =>
   rw [G] at F;have e4:=((jC hf.out).2.1 (J 4 rfl)) G;have z:=(bO (iC X hf.out.1)).1 0;go_simp;refine I.out (upd s 10 (.pointer (some ⟨B,0,none⟩))) _ _ (by simp [aX,F,e4] <;> rfl) (kC (kB (kX (fun _ _=>rfl) id)) hf.out)
  | false =>
   rw [G] at F;go_simp;refine I.out (upd s 10 (undef)) _ _ kY (kC (kB (kX (fun _ h=>Bool.noConfusion (h.symm.trans G)) id)) hf.out)
 ·have F:=(hf.out.2.2.2.2.1 (J 3 rfl))
  cases G:((h.pos != 0)) with
  | true =>
   rw [G] at F;have e5:=((jC hf.out).2.2.1 (J 5 rfl)) G;go_simp;refine I.out (upd s 11 (.pointer (some ⟨B,0,none⟩))) _ _ (by simp [aX,F,e5] <;> rfl) (kC (kB (kA (kX (fun _ _=>rfl) id))) hf.out)
  | false =>
   rw [G] at F;go_simp;refine I.out (upd s 11 (undef)) _ _ kY (kC (kB (kA (kX (fun _ h=>Bool.noConfusion (h.symm.trans G)) id))) hf.out)
 ·have F:=(hf.out.2.2.2.2.1 (J 3 rfl))
  cases G:((h.pos != 0)) with
  | true =>
   rw [G] at F;have e6:=((jC hf.out).2.2.2.1 (J 6 rfl)) G;go_simp;refine I.out (upd s 12 (.pointer (some ⟨B,0,none⟩))) _ _ (by simp [aX,F,e6] <;> rfl) (kD (kX (fun _ _=>rfl) id) hf.out)
  | false =>
   rw [G] at F;go_simp;refine I.out (upd s 12 (undef)) _ _ kY (kD (kX (fun _ h=>Bool.noConfusion (h.symm.trans G)) id) hf.out)
 ·have F:=(hf.out.2.2.2.2.1 (J 3 rfl))
  cases G:((h.pos != 0)) with
  | true =>
   rw [G] at F;have e7:=((jD hf.out).1 (J 7 rfl)) G;have z:=Lb (x:=x) (iC V hf.out.1);go_simp;refine I.out (upd s 13 (.agg (aH x.ch (.slice a x.ch.cells p) (.slice b x.ch.words q)))) _ _ (by simp [aX,F,e7] <;> rfl) (kD (kA (kX (fun _ _=>rfl) id)) hf.out)
  | false =>
   rw [G] at F;go_simp;refine I.out (upd s 13 (undef)) _ _ kY (kD (kA (kX (fun _ h=>Bool.noConfusion (h.symm.trans G)) id)) hf.out)
 ·have F:=(hf.out.2.2.2.2.1 (J 3 rfl))
  cases G:((h.pos != 0)) with
  | true =>
   rw [G] at F;have z:=iC O hf.out.1;go_simp;refine I.out (upd s 14 (.agg (aB h))) _ _ kY (kD (kB (kX (fun _ _=>rfl) id)) hf.out)
  | false =>
   rw [G] at F;go_simp;refine I.out (upd s 14 (undef)) _ _ kY (kD (kB (kX (fun _ h=>Bool.noConfusion (h.symm.trans G)) id)) hf.out)
 ·have F:=(hf.out.2.2.2.2.1 (J 3 rfl))
  cases G:((h.pos != 0)) with
  | true =>
   rw [G] at F;have e8:=((jD hf.out).2.1 (J 8 rfl)) G;have e9:=((jD hf.out).2.2.1 (J 9 rfl)) G;go_simp
   go_at_call 107
   refine (EX x.ch h a b p q _ ((N.out.on Im).on hf.out.1).seg.1 N.out.non.1 ((N.out.on Im).on hf.out.1).seg.2.1 N.out.non.2.1 (by have:=N.out.len.1;unfold maxLen;omega) (by have:=N.out.len.2.1;unfold maxLen;omega)).mono ?_;rintro _ wy ⟨rfl,hE⟩;refine I.out (upd s 15 (.bool (kM x.ch h))) _ _ (by simp [aX,F,e8,e9] <;> rfl) (kX (bT hf.out.1 hE) (kD (kB (kX (fun _ _=>rfl) (kX (nU (U 11 rfl)) (kX (nU (U 12 rfl)) (fun _=>nU (U 13 rfl))))))) hf.out)
  | false =>
   rw [G] at F;go_simp;refine I.out (upd s 15 (undef)) _ _ kY (kD (kB (kA (kX (fun _ h=>Bool.noConfusion (h.symm.trans G)) id))) hf.out)
 ·have F:=(hf.out.2.2.2.2.1 (J 3 rfl))
  cases G:((h.pos != 0)) with
  | true =>
   rw [G] at F;have R:=((jD hf.out).2.2.2.1 (J 10 rfl)) G;go_simp;refine I.out (upd s 16 (.bool (!kM x.ch h))) _ _ (by simp [aX,F,R] <;> rfl) (kD (kC (kX (fun _ _=>rfl) id)) hf.out)
  | false =>
   rw [G] at F;go_simp;refine I.out (upd s 16 (undef)) _ _ kY (kD (kC (kX (fun _ h=>Bool.noConfusion (h.symm.trans G)) id)) hf.out)
 ·have F:=(hf.out.2.2.2.2.1 (J 3 rfl))
  have L:=((jC (jD hf.out)).1 (J 11 rfl));cases G:((h.pos != 0)) with
  | true =>
   rw [G] at F;replace L:=L G;go_simp;refine I.out (upd s 17 (.bool (!kM x.ch h))) _ _ (by simp [aX,F,L] <;> rfl) (kD (kC (kA (kX (fun _=>by rw [show (upd s 17 (.bool (!kM x.ch h))) 17=.bool (!kM x.ch h) from rfl];exact Vn G) id))) hf.out)
  | false =>
   clear L;rw [G] at F;go_simp;refine I.out (upd s 17 (.bool false)) _ _ kY (kD (kC (kA (kX (fun _=>by rw [show (upd s 17 (.bool false)) 17=.bool false from rfl];exact Vo G) id))) hf.out)
 ·have T:=((jC (jD hf.out)).2.1 (J 12 rfl))
  go_simp;refine I.out (upd s 4 (.bool (lU x.ch h))) _ _ (by simp [aX,T] <;> rfl) (kD (kC (kB (fun _=>fun _=>rfl))) hf.out)
theorem EZ (x:Wo) (a b d e:Option Addr) (p q r U B:Nat) (w:World) (H:LB w B x a b d e p q r U) :
  Calls prog 128 #[.agg #[.pointer (some ⟨B,0,none⟩)]] w fun r' w'=>r'=.returned (.bool (!x.hands.any (lU x.ch)))∧Below w w w':=by
 have L:=aA H;clear H;have O:∀ args w,(callFunc 175 args).run prog w=.ok (.enter 175 args) w:=enters_of func175 bH rfl;have X:=aA fun (W:World) (R:Below w w W)=>vM 175 #[.agg #[.pointer (some ⟨B,0,none⟩)]] #[] (lU x.ch) x.hands d r W (L.out.on R).seg.2.2.1 (by have:=L.out.len.2.2.1;omega) O (fun Y h M=>(EY x a b d e p q r U B Y ((L.out.on R).on M) h:Calls prog _ #[_,_] _ _))
 clear O;go_enter func128,ntmps128;go_wp2_with fail;generalize I:World.alloc w _=w5;have J:hp w5 w=some (.cells #[.pointer (some ⟨B,0,none⟩)] 97):=by rw [← I];exact heap_alloc_new _ _
 have Im:Below w w w5:=by rw [← I];exact bL _ _
 clear I;have N:=(L.out.on Im).box;refine lh [[],[0],[0,1],[0,1,2],[0,1,2,3],[],[5],[0,1,2,3,4,5,6],qB [],qB [8]] [3,4,5,6,7,8,9,10,11,2] (fun l s V=>(Below w5 w5 V)∧(l 0=true→s 3=.pointer (some ⟨w,0,none⟩))∧(l 1=true→s 4=.pointer (some ⟨B,0,none⟩))∧(l 2=true→s 5=.pointer (some ⟨B,0,none⟩))∧(l 3=true→s 6=.pointer (some ⟨B,6,none⟩))∧(l 4=true→s 7=.slice d x.hands r)∧(l 5=true→s 8=.agg #[.pointer (some ⟨B,0,none⟩)])∧(l 6=true→s 9=.func (.func 175) #[.agg #[.pointer (some ⟨B,0,none⟩)]] #[])∧(l 7=true→s 10=.bool (x.hands.any (lU x.ch)))∧(l 8=true→s 11=.bool (!x.hands.any (lU x.ch)))∧(l 9=true→s 2=.bool (!x.hands.any (lU x.ch)))) (fun s=>⟨(Below.refl _ _).drew,nB,nB,nB,nB,nB,nB,nB,nB,nB,nB⟩) ?_ ?_
 refine ⟨?_,?_,?_,?_,?_,?_,?_,?_,?_,?_,trivial⟩;iterate 10 (intro l s V hl G T hf K F;rotate_left)
 ·intro l s w6 yz hf
  have ec:=(jD hf).2.2 (yz 9 rfl);exact KC
 ·go_simp
  refine F.out (upd s 3 (.pointer (some ⟨w,0,none⟩))) _ _ gM (kA (kX (fun _=>rfl) id) hf.out)
 ·have Z:=(hf.out.2.1 (G 0 rfl))
  have z:=(bO (iC J hf.out.1)).1 0;go_simp;refine F.out (upd s 4 (.pointer (some ⟨B,0,none⟩))) _ _ (by simp [aX,Z] <;> rfl) (kB (kX (fun _=>rfl) id) hf.out)
 ·have e1:=(hf.out.2.2.1 (G 1 rfl))
  go_simp;refine F.out (upd s 5 (.pointer (some ⟨B,0,none⟩))) _ _ pQ (kB (kA (kX (fun _=>rfl) id)) hf.out)
 ·have e2:=(hf.out.2.2.2.1 (G 2 rfl))
  go_simp;refine F.out (upd s 6 (.pointer (some ⟨B,6,none⟩))) _ _ wR (kC (kX (fun _=>rfl) id) hf.out)
 ·have e3:=(hf.out.2.2.2.2.1 (G 3 rfl))
  have z:=(bO (iC N hf.out.1)).1 6;go_simp;refine F.out (upd s 7 (.slice d x.hands r)) _ _ yh (kC (kA (kX (fun _=>rfl) id)) hf.out)
 ·have z:=iC J hf.out.1
  have a0:=(bO z).1 0;go_simp;refine F.out (upd s 8 (.agg #[.pointer (some ⟨B,0,none⟩)])) _ _ gM (kC (kB (kX (fun _=>rfl) id)) hf.out)
 ·have e5:=((jC hf.out).2.2.1 (G 5 rfl))
  go_simp;refine F.out (upd s 9 (.func (.func 175) #[.agg #[.pointer (some ⟨B,0,none⟩)]] #[])) _ _ mK (kC (kB (kA (kX (fun _=>rfl) id))) hf.out)
 ·have e4:=((jC hf.out).2.1 (G 4 rfl))
  have e6:=((jC hf.out).2.2.2.1 (G 6 rfl));go_simp
  go_at_call 174
  refine (X.out _ (Im.trans ((hf.out.1).mono Im.size))).mono ?_;rintro _ wy ⟨rfl,hE⟩;refine F.out (upd s 10 (.bool (x.hands.any (lU x.ch)))) _ _ (by simp [aX,e4,e6] <;> rfl) (kX (bT hf.out.1 hE) (kC (kB (kA (kX (fun _=>rfl) (kX (nU (T 8 rfl)) (fun _=>nU (T 9 rfl))))))) hf.out)
 ·have e7:=((jD hf.out).1 (G 7 rfl))
  go_simp;refine F.out (upd s 11 (.bool (!x.hands.any (lU x.ch)))) _ _ wQ (kD (kA (kX (fun _=>rfl) id)) hf.out)
 ·have e8:=((jD hf.out).2.1 (G 8 rfl))
  go_simp;refine F.out (upd s 2 (.bool (!x.hands.any (lU x.ch)))) _ _ wP (kD (kB (fun _=>fun _=>rfl)) hf.out)
theorem Ib (x:Wo) (a b d e:Option Addr) (p q r N B:Nat) (w:World) (H:LB w B x a b d e p q r N) :
  Calls prog 109 #[.agg #[.pointer (some ⟨B,0,none⟩)]] w fun r' w'=>r'=.returned (.bool (decide (((keptIn x.ch).length:Int)≤x.ch.cap)))∧Below w w w':=by
 have L:=aA H;clear H;go_enter func109,ntmps109;go_wp2_with fail;generalize G:World.alloc w _=w5;have I:hp w5 w=some (.cells #[.pointer (some ⟨B,0,none⟩)] 97):=by rw [← G];exact heap_alloc_new _ _
 have Im:Below w w w5:=by rw [← G];exact bL _ _
 clear G;have J:=(L.out.on Im).box;refine lh [[],[0],[],[2],[2,3],[2,3,4],[2,3,4,5],[2,3,4,5,6],qB [],qB [8]] [3,4,5,6,7,8,9,10,11,2] (fun l s O=>(Below w5 w5 O)∧(l 0=true→s 3=.agg #[.pointer (some ⟨B,0,none⟩)])∧(l 1=true→s 4=.int .i64 (keptIn x.ch).length)∧(l 2=true→s 5=.pointer (some ⟨w,0,none⟩))∧(l 3=true→s 6=.pointer (some ⟨B,0,none⟩))∧(l 4=true→s 7=.pointer (some ⟨B,0,none⟩))∧(l 5=true→s 8=.pointer (some ⟨B,0,none⟩))∧(l 6=true→s 9=.pointer (some ⟨B,0,none⟩))∧(l 7=true→s 10=.int .i64 x.ch.cap)∧(l 8=true→s 11=.bool (decide (((keptIn x.ch).length:Int)≤x.ch.cap)))∧(l 9=true→s 2=.bool (decide (((keptIn x.ch).length:Int)≤x.ch.cap)))) (fun s=>⟨(Below.refl _ _).drew,nB,nB,nB,nB,nB,nB,nB,nB,nB,nB⟩) ?_ ?_
 refine ⟨?_,?_,?_,?_,?_,?_,?_,?_,?_,?_,trivial⟩;iterate 10 (intro l s O hl F M hf K hK;rotate_left)
 ·intro l s w6 yz hf
  have ec:=(jD hf).2.2 (yz 9 rfl);exact KC
 ·have z:=iC I hf.out.1
  have a0:=(bO z).1 0;exact Ot
 ·have R:=(hf.out.2.1 (F 0 rfl))
  go_simp
  go_at_call 159
  refine (rX x a b d e p q r N B _ ((L.out.on Im).on hf.out.1)).mono ?_;rintro _ wy ⟨rfl,hE⟩;refine hK.out (upd s 4 (.int .i64 (keptIn x.ch).length)) _ _ su (kX (bT hf.out.1 hE) (kA (kX (fun _=>rfl) (kC (kB (kX (nU (M 8 rfl)) (fun _=>nU (M 9 rfl))))))) hf.out)
 ·go_simp
  refine hK.out (upd s 5 (.pointer (some ⟨w,0,none⟩))) _ _ gM (kB (kA (kX (fun _=>rfl) id)) hf.out)
 ·have U:=(hf.out.2.2.2.1 (F 2 rfl))
  have z:=(bO (iC I hf.out.1)).1 0;go_simp;refine hK.out (upd s 6 (.pointer (some ⟨B,0,none⟩))) _ _ (by simp [aX,U] <;> rfl) (kC (kX (fun _=>rfl) id) hf.out)
 ·have V:=(hf.out.2.2.2.2.1 (F 3 rfl))
  go_simp;refine hK.out (upd s 7 (.pointer (some ⟨B,0,none⟩))) _ _ (by simp [aX,V] <;> rfl) (kC (kA (kX (fun _=>rfl) id)) hf.out)
 ·have X:=((jC hf.out).2.1 (F 4 rfl))
  go_simp;refine hK.out (upd s 8 (.pointer (some ⟨B,0,none⟩))) _ _ (by simp [aX,X] <;> rfl) (kC (kB (kX (fun _=>rfl) id)) hf.out)
 ·have Y:=((jC hf.out).2.2.1 (F 5 rfl))
  go_simp;refine hK.out (upd s 9 (.pointer (some ⟨B,0,none⟩))) _ _ (by simp [aX,Y] <;> rfl) (kC (kB (kA (kX (fun _=>rfl) id))) hf.out)
 ·have Z:=((jC hf.out).2.2.2.1 (F 6 rfl))
  have z:=(bO (iC J hf.out.1)).1 0;go_simp;refine hK.out (upd s 10 (.int .i64 x.ch.cap)) _ _ (by simp [aX,Z] <;> rfl) (kD (kX (fun _=>rfl) id) hf.out)
 ·have T:=(hf.out.2.2.1 (F 1 rfl))
  have e7:=((jD hf.out).1 (F 7 rfl));go_simp;refine hK.out (upd s 11 (.bool (decide (((keptIn x.ch).length:Int)≤x.ch.cap)))) _ _ (by simp [aX,T,e7] <;> rfl) (kD (kA (kX (fun _=>rfl) id)) hf.out)
 ·have e8:=((jD hf.out).2.1 (F 8 rfl))
  go_simp;refine hK.out (upd s 2 (.bool (decide (((keptIn x.ch).length:Int)≤x.ch.cap)))) _ _ wP (kD (kB (fun _=>fun _=>rfl)) hf.out)
theorem Fa (x:Wo) (a b d e:Option Addr) (p q r Y B:Nat) (w:World) (H:LB w B x a b d e p q r Y) :
  Calls prog 110 #[.agg #[.pointer (some ⟨B,0,none⟩)]] w fun r' w'=>r'=.returned (.bool (!x.hands.any (jB 1) || (((keptIn x.ch).length:Int) == x.ch.cap)))∧Below w w w':=by
 have R:=aA H;clear H;obtain ⟨I,hq⟩:∃ I,Hid (x.hands.any (jB 1)=I):=⟨_,rfl⟩;rw [hq.out];go_enter func110,ntmps110;go_wp2_with fail;generalize N:World.alloc w _=w5;have O:hp w5 w=some (.cells #[.pointer (some ⟨B,0,none⟩)] 97):=by rw [← N];exact heap_alloc_new _ _
 have Im:Below w w w5:=by rw [← N];exact bL _ _
 clear N;have a0:=(R.out.on Im).box;refine lh [[],[0],[0,1],[0,1,2],[0,1,2,3],[0,1,2,3,4],[0,1,2,3],[0,1,2,3,6],[0,1,2,3,6,7],[0,1,2,3,6,7,8],[0,1,2,3,6,7,8,9],[0,1,2,3,6,7,8,9,10],qB [8,9,10,11],qB [8,9,10,11,12],qB [8,9,10,11,12,13]] [3,4,5,6,7,8,9,10,11,12,13,14,15,16,2] (fun l s wx=>(Below w5 w5 wx)∧(l 0=true→s 3=.agg #[.pointer (some ⟨B,0,none⟩)])∧(l 1=true→s 4=.bool I)∧(l 2=true→s 5=.bool (!I))∧(l 3=true→s 6=.bool (!I))∧(l 4=true→I=true→s 7=.agg #[.pointer (some ⟨B,0,none⟩)])∧(l 5=true→I=true→s 8=.int .i64 (keptIn x.ch).length)∧(l 6=true→I=true→s 9=.pointer (some ⟨w,0,none⟩))∧(l 7=true→I=true→s 10=.pointer (some ⟨B,0,none⟩))∧(l 8=true→I=true→s 11=.pointer (some ⟨B,0,none⟩))∧(l 9=true→I=true→s 12=.pointer (some ⟨B,0,none⟩))∧(l 10=true→I=true→s 13=.pointer (some ⟨B,0,none⟩))∧(l 11=true→I=true→s 14=.int .i64 x.ch.cap)∧(l 12=true→I=true→s 15=.bool (((keptIn x.ch).length:Int) == x.ch.cap))∧(l 13=true→s 16=.bool (!I || (((keptIn x.ch).length:Int) == x.ch.cap)))∧(l 14=true→s 2=.bool (!I || (((keptIn x.ch).length:Int) == x.ch.cap)))) (fun s=>⟨(Below.refl _ _).drew,nB,nB,nB,nB,nB,nB,nB,nB,nB,nB,nB,nB,nB,nB,nB⟩) ?_ ?_
 refine ⟨?_,?_,?_,?_,?_,?_,?_,?_,?_,?_,?_,?_,?_,?_,?_,trivial⟩;iterate 15 (intro l s wx hl J L hf K hK;rotate_left)
 ·intro l s w6 yz hf
  have ec:=(jC (jD hf)).2.2.2 (yz 14 rfl);exact KC
 ·have z:=iC O hf.out.1
  have Z:=(bO z).1 0;exact Ot
 ·have e0:=(hf.out.2.1 (J 0 rfl))
  go_simp
  go_at_call 160
  refine (ql x a b d e p q r Y B _ ((R.out.on Im).on hf.out.1) 1).mono ?_;rintro _ wy ⟨rfl,X⟩;rw [hq.out];refine hK.out (upd s 4 (.bool I)) _ _ yj ⟨bT hf.out.1 X,hf.out.2.1,fun _=>rfl,nU (L 2 rfl),nU (L 3 rfl),nU (L 4 rfl),nU (L 5 rfl),nU (L 6 rfl),nU (L 7 rfl),nU (L 8 rfl),nU (L 9 rfl),nU (L 10 rfl),nU (L 11 rfl),nU (L 12 rfl),nU (L 13 rfl),nU (L 14 rfl)⟩
 ·have e1:=(hf.out.2.2.1 (J 1 rfl))
  go_simp;refine hK.out (upd s 5 (.bool (!I))) _ _ pQ (kB (kA (kX (fun _=>rfl) id)) hf.out)
 ·have e2:=(hf.out.2.2.2.1 (J 2 rfl))
  go_simp;refine hK.out (upd s 6 (.bool (!I))) _ _ wR (kC (kX (fun _=>rfl) id) hf.out)
 ·have F:=(hf.out.2.2.2.2.1 (J 3 rfl))
  cases G:(I) with
  | true =>
   rw [G] at F;have z:=iC O hf.out.1;have Z:=(bO z).1 0;go_simp;refine hK.out (upd s 7 (.agg #[.pointer (some ⟨B,0,none⟩)])) _ _ kY (kC (kA (kX (fun _ _=>rfl) id)) hf.out)
  | false =>
   rw [G] at F;go_simp;refine hK.out (upd s 7 (undef)) _ _ kY (kC (kA (kX (fun _ h=>Bool.noConfusion (h.symm.trans G)) id)) hf.out)
 ·have F:=(hf.out.2.2.2.2.1 (J 3 rfl))
  cases G:(I) with
  | true =>
   rw [G] at F;have e4:=((jC hf.out).2.1 (J 4 rfl)) G;go_simp
   go_at_call 159
   refine (rX x a b d e p q r Y B _ ((R.out.on Im).on hf.out.1)).mono ?_;rintro _ wy ⟨rfl,X⟩;refine hK.out (upd s 8 (.int .i64 (keptIn x.ch).length)) _ _ (by simp [aX,F,e4] <;> rfl) (kX (bT hf.out.1 X) (kC (kA (kX (fun _ _=>rfl) (kC (kB (kX (nU (L 12 rfl)) (kX (nU (L 13 rfl)) (fun _=>nU (L 14 rfl))))))))) hf.out)
  | false =>
   rw [G] at F;go_simp;refine hK.out (upd s 8 (undef)) _ _ kY (kC (kB (kX (fun _ h=>Bool.noConfusion (h.symm.trans G)) id)) hf.out)
 ·have F:=(hf.out.2.2.2.2.1 (J 3 rfl))
  cases G:(I) with
  | true =>
   rw [G] at F;go_simp;refine hK.out (upd s 9 (.pointer (some ⟨w,0,none⟩))) _ _ kY (kC (kB (kA (kX (fun _ _=>rfl) id))) hf.out)
  | false =>
   rw [G] at F;go_simp;refine hK.out (upd s 9 (undef)) _ _ kY (kC (kB (kA (kX (fun _ h=>Bool.noConfusion (h.symm.trans G)) id))) hf.out)
 ·have F:=(hf.out.2.2.2.2.1 (J 3 rfl))
  cases G:(I) with
  | true =>
   rw [G] at F;have e6:=((jC hf.out).2.2.2.1 (J 6 rfl)) G;have z:=(bO (iC O hf.out.1)).1 0;go_simp;refine hK.out (upd s 10 (.pointer (some ⟨B,0,none⟩))) _ _ (by simp [aX,F,e6] <;> rfl) (kD (kX (fun _ _=>rfl) id) hf.out)
  | false =>
   rw [G] at F;go_simp;refine hK.out (upd s 10 (undef)) _ _ kY (kD (kX (fun _ h=>Bool.noConfusion (h.symm.trans G)) id) hf.out)
 ·have F:=(hf.out.2.2.2.2.1 (J 3 rfl))
  cases G:(I) with
  | true =>
   rw [G] at F;have e7:=((jD hf.out).1 (J 7 rfl)) G;go_simp;refine hK.out (upd s 11 (.pointer (some ⟨B,0,none⟩))) _ _ (by simp [aX,F,e7] <;> rfl) (kD (kA (kX (fun _ _=>rfl) id)) hf.out)
  | false =>
   rw [G] at F;go_simp;refine hK.out (upd s 11 (undef)) _ _ kY (kD (kA (kX (fun _ h=>Bool.noConfusion (h.symm.trans G)) id)) hf.out)
 ·have F:=(hf.out.2.2.2.2.1 (J 3 rfl))
  cases G:(I) with
  | true =>
   rw [G] at F;have e8:=((jD hf.out).2.1 (J 8 rfl)) G;go_simp;refine hK.out (upd s 12 (.pointer (some ⟨B,0,none⟩))) _ _ (by simp [aX,F,e8] <;> rfl) (kD (kB (kX (fun _ _=>rfl) id)) hf.out)
  | false =>
   rw [G] at F;go_simp;refine hK.out (upd s 12 (undef)) _ _ kY (kD (kB (kX (fun _ h=>Bool.noConfusion (h.symm.trans G)) id)) hf.out)
 ·have F:=(hf.out.2.2.2.2.1 (J 3 rfl))
  cases G:(I) with
  | true =>
   rw [G] at F;have e9:=((jD hf.out).2.2.1 (J 9 rfl)) G;go_simp;refine hK.out (upd s 13 (.pointer (some ⟨B,0,none⟩))) _ _ (by simp [aX,F,e9] <;> rfl) (kD (kB (kA (kX (fun _ _=>rfl) id))) hf.out)
  | false =>
   rw [G] at F;go_simp;refine hK.out (upd s 13 (undef)) _ _ kY (kD (kB (kA (kX (fun _ h=>Bool.noConfusion (h.symm.trans G)) id))) hf.out)
 ·have F:=(hf.out.2.2.2.2.1 (J 3 rfl))
  cases G:(I) with
  | true =>
   rw [G] at F;have T:=((jD hf.out).2.2.2.1 (J 10 rfl)) G;have z:=(bO (iC a0 hf.out.1)).1 0;go_simp;refine hK.out (upd s 14 (.int .i64 x.ch.cap)) _ _ (by simp [aX,F,T] <;> rfl) (kD (kC (kX (fun _ _=>rfl) id)) hf.out)
  | false =>
   rw [G] at F;go_simp;refine hK.out (upd s 14 (undef)) _ _ kY (kD (kC (kX (fun _ h=>Bool.noConfusion (h.symm.trans G)) id)) hf.out)
 ·have F:=(hf.out.2.2.2.2.1 (J 3 rfl))
  cases G:(I) with
  | true =>
   rw [G] at F;have e5:=((jC hf.out).2.2.1 (J 5 rfl)) G;have U:=((jC (jD hf.out)).1 (J 11 rfl)) G;go_simp;refine hK.out (upd s 15 (.bool (((keptIn x.ch).length:Int) == x.ch.cap))) _ _ (by simp [aX,F,e5,U] <;> rfl) (kD (kC (kA (kX (fun _ _=>rfl) id))) hf.out)
  | false =>
   rw [G] at F;go_simp;refine hK.out (upd s 15 (undef)) _ _ kY (kD (kC (kA (kX (fun _ h=>Bool.noConfusion (h.symm.trans G)) id))) hf.out)
 ·have F:=(hf.out.2.2.2.2.1 (J 3 rfl))
  have M:=((jC (jD hf.out)).2.1 (J 12 rfl));cases G:(I) with
  | true =>
   rw [G] at F;replace M:=M G;go_simp;refine hK.out (upd s 16 (.bool (((keptIn x.ch).length:Int) == x.ch.cap))) _ _ (by simp [aX,F,M] <;> rfl) (kD (kC (kB (kX (fun _=>by rw [show (upd s 16 (.bool (((keptIn x.ch).length:Int) == x.ch.cap))) 16=.bool (((keptIn x.ch).length:Int) == x.ch.cap) from rfl,G];rfl) id))) hf.out)
  | false =>
   clear M;rw [G] at F;go_simp;refine hK.out (upd s 16 (.bool true)) _ _ kY (kD (kC (kB (kX (fun _=>by rw [show (upd s 16 (.bool true)) 16=.bool true from rfl,G];rfl) id))) hf.out)
 ·have V:=((jC (jD hf.out)).2.2.1 (J 13 rfl))
  go_simp;refine hK.out (upd s 2 (.bool (!I || (((keptIn x.ch).length:Int) == x.ch.cap)))) _ _ (by simp [aX,V] <;> rfl) (kD (kC (kB (kA (fun _=>fun _=>rfl)))) hf.out)
theorem Fb (x:Wo) (a b d e:Option Addr) (p q r Y B:Nat) (w:World) (H:LB w B x a b d e p q r Y) :
  Calls prog 111 #[.agg #[.pointer (some ⟨B,0,none⟩)]] w fun r' w'=>r'=.returned (.bool (!x.hands.any (jB 2) || ((keptIn x.ch).length == 0 && !x.hands.any (jB 1))))∧Below w w w':=by
 have Z:=aA H;clear H;obtain ⟨q1,N⟩:∃ q1,Hid (x.hands.any (jB 1)=q1):=⟨_,rfl⟩;obtain ⟨q2,O⟩:∃ q2,Hid (x.hands.any (jB 2)=q2):=⟨_,rfl⟩;obtain ⟨V,M⟩:∃ V,Hid ((keptIn x.ch).length=V):=⟨_,rfl⟩;rw [N.out,O.out,M.out];have e0:(((V:Nat):Int) == 0)=(V == 0):=by rw [Bool.eq_iff_iff];simp
 go_enter func111,ntmps111
 go_wp2_with fail;refine aK w zB fun G=>?_;refine (ql x a b d e p q r Y B _ (Z.out.on G) 2).mono ?_;rintro _ w1 ⟨rfl,J⟩;obtain ⟨a0,R,F⟩:=VC G J (b:=w);(try simp at R);(try simp [go_sem] at F);replace X:=OH F;clear F J G
 rw [O.out];cases q2 with
 | false =>
  go_wp2;go_ret;exact ⟨rfl,zB⟩
 | true =>
  go_wp2_with fail;refine aK w zB fun G=>?_;refine (rX x a b d e p q r Y B _ (Z.out.on G)).mono ?_;rintro _ w2 ⟨rfl,K⟩;obtain ⟨a1,T,F⟩:=VC G K (b:=w);(try simp at T);(first|simp [go_sem,X] at F|simp [go_sem] at F|skip);replace X:=OH F;clear F K G
  rw [M.out];cases I:(V == 0) with
  | false =>
   rw [I] at e0;go_wp2;go_ret;exact ⟨bQ (by rw [I];rfl),zB⟩
  | true =>
   rw [I] at e0;go_wp2_with fail;refine aK w zB fun G=>?_;refine (ql x a b d e p q r Y B _ (Z.out.on G) 1).mono ?_;rintro _ w3 ⟨rfl,L⟩;obtain ⟨a2,U,F⟩:=VC G L (b:=w);(try simp at U);(first|simp [go_sem,X] at F|simp [go_sem] at F|skip);replace X:=OH F;clear F L G
   rw [N.out];go_wp2;go_ret;exact ⟨bQ (by rw [I];cases q1 <;> rfl),zB⟩
def Vq (B:Nat) (fs:List Nat) (i _j:Nat):Value:=.func (.func (fs.getD i 0)) #[.agg #[.pointer (some ⟨B,0,none⟩)]] #[]
def Vw (B:Nat) (fs:List Nat):List Value:=fs.map fun f=>.func (.func f) #[.agg #[.pointer (some ⟨B,0,none⟩)]] #[]
theorem Le (B:Nat) (F:List Nat):∀ i j,i<F.length→j<1→(Vw B F)[i*1+j]?=some (Vq B F i j):=fun i j G H=>by
 have:j=0:=by omega
 subst this;simp [Vw,Vq,List.getD,G]
theorem Kl {w:World} {lo:Nat} {t:TypeId} {n k:Nat} {v:Value} {F:List Value} {f:Nat→Nat→Value} (h:w.ownsRow lo t k v n F) (I:∀ i j,i<n→j<k→F[i*k+j]?=some (f i j)):∃ (a:Option Addr) (cap:Nat),v=.slice a n cap∧Seg w w a n k f∧(a=none→n=0∧cap=0):=by
 obtain ⟨a,cap,rfl,hs⟩:=zt h I;refine ⟨a,cap,rfl,hs,fun e=>?_⟩;subst e;rcases h.2 with ⟨e,H⟩|⟨g,cap,G,e,_⟩
 ·simp at e;exact ⟨H,e.2⟩
 ·simp at e
def UH (w:World) (lo:Nat) (v:Value) (B:Nat) (fs:List Nat):Prop:=w.ownsRow lo 145 1 v fs.length (Vw B fs)
theorem UH.opens {w:World} {lo:Nat} {v:Value} {B:Nat} {F:List Nat} (h:UH w lo v B F):∃ (a:Option Addr) (cap:Nat),v=.slice a F.length cap∧Seg w w a F.length 1 (Vq B F)∧(a=none→F.length=0∧cap=0):=Kl h (Le B F)
theorem vN (B:Nat) (w:World):Calls prog 77 #[.agg #[.pointer (some ⟨B,0,none⟩)]] w fun F w'=>(∃ v,F=.returned v∧UH w' w v B [127,128])∧Below w w w':=by
 go_enter func77,ntmps77
 go_wp2;go_ret;exact ⟨⟨_,rfl,F5 (Bv _ _ _) rfl tO cB⟩,zB⟩
theorem NG {A:Nat→Bool} {F:List Nat} {k g:Nat} (G:k<F.length) (hc:F.getD k 0=g) (e:(F.take k).all A=true) (H:A g=true):(F.take (k+1)).all A=true:=by
 rw [List.take_add_one,List.getElem?_eq_getElem G,List.all_append,e];simp [List.getD,List.getElem?_eq_getElem G] at hc;simp [hc,H]
theorem Bw (B:Nat) (F:List Nat) (A:Nat→Bool) (d:Option Addr) (r:Nat) (w:World) (h:Seg w w d F.length 1 (Vq B F)) (m:F.length≤1099511627776)
  (R:∀ f ∈ F,∀ args w,(callFunc f args).run prog w=.ok (.enter f args) w)
  (HP:∀ f ∈ F,∀ W:World,Below w w W→Calls prog f #[.agg #[.pointer (some ⟨B,0,none⟩)]] W fun U w'=>U=.returned (.bool (A f))∧Below W W w') :
  Calls prog 58 #[.slice d F.length r] w fun U w'=>U=.returned (.bool (F.all A))∧Below w w w':=by
 replace HP:=aA HP;have Z:=aA R;clear R;go_enter func58,ntmps58;go_wp2_with fail;go_loopw [4,7] (fun _ i wr=>∃ k:Nat,k≤F.length∧i=.int .i64 k∧Hid ((F.take k).all A=true)∧Below w w wr) (fun _ i _=>F.length - (intOf i).toNat)
 case atStart=>exact ⟨0,Nat.zero_le _,rfl,rfl,zB⟩
 case round =>
  obtain ⟨k,hk,rfl,H,K⟩:=hrel;by_cases J:k<F.length
  ·obtain ⟨V,Y,rfl,T,L⟩:∃ b o,d=some ⟨b,o,none⟩∧b<w.heap.size∧(∀ i j,i<F.length→j<1→w.cell? ⟨b,o+i*1+j,none⟩=some (Vq B F i j)):=by
    rcases h with X|X
    ·omega
    ·exact X
   have c2:wr.cell? ⟨V,Y+k,none⟩=some (Vq B F k 0):=(K.cell (p:=⟨V,Y+k,none⟩) T).trans (by have:=L k 0 J tO;simpa using this);clear L;simp only [Vq] at c2;have G:F.getD k 0 ∈ F:=by simp [List.getD,List.getElem?_eq_getElem J]
   generalize M:F.getD k 0=g at c2 G;have HC:=aA M;clear M;have R:=Z.out g G;have O:=aA G;clear G;have a0:(0:Int)≤(k:Int):=tO;have a1:(k:Int)<(F.length:Int):=tO;cases N:A g with
   | true =>
    go_wp2_with (go_at_fn g;refine (HP.out g O.out wr K).mono ?_;rintro _ w6 ⟨rfl,I⟩;rw [N])
    go_roundw
    case rel=>exact ⟨k+1,by omega,by go_num,NG J HC.out H.out N,bT K I⟩
    case measure=>simp [intOf];omega
   | false =>
    go_wp2_with (go_at_fn g;refine (HP.out g O.out wr K).mono ?_;rintro _ w6 ⟨rfl,I⟩;rw [N])
    go_ret;exact ⟨bQ (by symm;rw [List.all_eq_false];exact ⟨g,O.out,by simp [N]⟩),bT K I⟩
  ·obtain rfl:k=F.length:=by omega
   go_wp2;go_ret;exact ⟨bQ (by have:=H.out;rw [List.take_length] at this;rw [this]),K⟩
def pM (x:Wo) (f:Nat):Bool:=if f=127 then dB x else if f=128 then !x.hands.any (lU x.ch) else if f=109 then decide (((keptIn x.ch).length:Int)≤x.ch.cap) else if f=110 then (!x.hands.any (jB 1) || (((keptIn x.ch).length:Int) == x.ch.cap)) else (!x.hands.any (jB 2) || ((keptIn x.ch).length == 0 && !x.hands.any (jB 1)))
theorem Dx:∀ f ∈ [127,128,109,110,111],∀ args w,(callFunc f args).run prog w=.ok (.enter f args) w:=by
 intro f F;simp only [List.mem_cons,List.not_mem_nil,or_false] at F;rcases F with rfl|rfl|rfl|rfl|rfl
 ·exact enters_of func127 bH rfl
 ·exact enters_of func128 bH rfl
 ·exact enters_of func109 bH rfl
 ·exact enters_of func110 bH rfl
 ·exact enters_of func111 bH rfl
theorem Bz (x:Wo) (a b d e:Option Addr) (p q r F B:Nat) (w:World) (H:LB w B x a b d e p q r F):∀ f ∈ [127,128,109,110,111],Calls prog f #[.agg #[.pointer (some ⟨B,0,none⟩)]] w fun I w'=>I=.returned (.bool (pM x f))∧Below w w w':=by
 intro f G;simp only [List.mem_cons,List.not_mem_nil,or_false] at G;rcases G with rfl|rfl|rfl|rfl|rfl
 ·exact Cu x a b d e p q r F B w H
 ·exact EZ x a b d e p q r F B w H
 ·exact Ib x a b d e p q r F B w H
 ·exact Fa x a b d e p q r F B w H
 ·exact Fb x a b d e p q r F B w H
theorem Km (x:Wo) (a b d e:Option Addr) (p q r s:Nat) (w:World) (h:lX w w x a b d e) (z:pJ x a b d e p q r s) (m:qi x) :
  Calls prog 32 #[oI x a b d e p q r s] w fun r' w'=>r'=.returned (.bool ([127,128].all (pM x)))∧Below w w w':=by
 have N:Hid (∀ W:World,Below w w W→hp W w=some (.cells #[x.ch.cap,x.ch.sent,x.ch.got,x.ch.fin,.slice a x.ch.cells p,.slice b x.ch.words q,.slice d x.hands r,.slice e x.deals s,x.now] 35)→LB W w x a b d e p q r s):=fun W I Z=>⟨Z,h.atQ I,z,m⟩
 have M:=aA Dx;have F:∀ f ∈ [127,128],f ∈ [127,128,109,110,111]:=by decide
 clear h z m;go_enter func32,ntmps32;go_wp2_with fail;refine aK w zB fun R=>?_
 have z0:=heap_alloc_new w (.cells #[x.ch.cap,x.ch.sent,x.ch.got,x.ch.fin,.slice a x.ch.cells p,.slice b x.ch.words q,.slice d x.hands r,.slice e x.deals s,x.now] 35);refine (vN w _).mono ?_;rintro _ L ⟨⟨v,rfl,T⟩,G⟩;have H:Below w w L:=bT R G;have O:=N.out L H ((G.block w cK).trans z0);clear N z0 R G;obtain ⟨X,Y,rfl,U,_⟩:=T.opens;clear T;have V:=aA (Bw w [127,128] (pM x) X Y L U cB (fun f K=>M.out f (F f K)) (fun f K W I=>Bz x a b d e p q r s w W (O.on I) f (F f K)))
 clear U O M F;go_wp2_with (go_at_call 58;refine V.out.mono ?_;rintro _ w2 ⟨rfl,J⟩);go_ret;exact ⟨bQ (by simp only [List.all_cons,List.all_nil,Bool.and_true]),bT H J⟩
theorem Fe {P:Ha→Bool} {hs:List Ha}:hs.any P=false↔∀ k,k<hs.length→P (hs.getD k Ha.zero)=false:=by
 rw [List.any_eq_false];constructor
 ·intro h k F
  have:=h (hs[k]) (List.getElem_mem F);simpa [List.getD,List.getElem?_eq_getElem F] using this
 ·intro h y G
  obtain ⟨k,F,rfl⟩:=List.getElem_of_mem G;have:=h k F;simpa [List.getD,List.getElem?_eq_getElem F] using this
theorem uN (x:Wo):∀ n,iL x n=true↔∀ k,k<n→((aJ x (k:Int)).pos == 0 || lT x k)=true
 | 0=>by simp [iL]
 | n+1=>by
  have h:=uN x n;constructor
  ·intro e k G
   simp only [iL,Bool.and_eq_true] at e;by_cases F:k=n
   ·subst F;exact e.2
   ·exact h.1 e.1 k tO
  ·intro e
   simp only [iL,Bool.and_eq_true];exact ⟨h.2 fun k G=>e k tO,e n tO⟩
theorem Lf (x:Wo) (k:Nat):lU x.ch (x.hands.getD k Ha.zero)=!((aJ x (k:Int)).pos == 0 || lT x k):=by
 have e:aJ x (k:Int)=x.hands.getD k Ha.zero:=by simp [aJ]
 unfold lT lU kM;rw [e];generalize x.hands.getD k Ha.zero=h;rw [Bool.not_or];rfl
theorem Lh (x:Wo):(!x.hands.any (lU x.ch))=iL x x.hands:=by
 rw [Bool.eq_iff_iff,uN];simp only [Bool.not_eq_true'];rw [Fe];constructor
 ·intro h k F
  have:=h k F;rw [Lf] at this;cases G:((aJ x (k:Int)).pos == 0 || lT x k) with
  | true=>rfl
  | false=>rw [G] at this;exact Bool.noConfusion this
 ·intro h k F
  rw [Lf,h k F];rfl
theorem rY (x:Wo) (a b d e:Option Addr) (p q r s:Nat) (w:World) (h:lX w w x a b d e) (z:pJ x a b d e p q r s) (m:qi x) :
  Calls prog 32 #[oI x a b d e p q r s] w fun G w'=>G=.returned (.bool (quietIn x))∧Below w w w':=by
 have h1:=Km x a b d e p q r s w h z m;have F:[127,128].all (pM x)=quietIn x:=by
  simp only [List.all_cons,List.all_nil,Bool.and_true];rw [show pM x 127=dB x from rfl,show pM x 128=!x.hands.any (lU x.ch) from rfl,Lh];rfl
 rw [F] at h1;exact h1
theorem TL:(Tryz.prog.info? 145).map (fun i=>(i.zero,i.size,i.bytes))=some (some .nilFunc,1,8):=by kernel_rfl
theorem Fg (B:Nat) (w:World):Calls prog 59 #[.agg #[.pointer (some ⟨B,0,none⟩)]] w fun r' w'=>(∃ v,r'=.returned v∧UH w' w v B [127,128,109,110,111])∧Below w w w':=by
 obtain ⟨i0,X,Z,a0,a1⟩:=info_parts TL;go_enter func59,ntmps59;go_wp2_with fail;generalize N:World.alloc w _=F;have H:hp F w=some (.cells #[.pointer (some ⟨B,0,none⟩)] 97):=by rw [← N];exact heap_alloc_new _ _
 have M:Below w w F:=by rw [← N];exact bL _ _
 clear N;refine lh [[],[0],[],[2],[],[4],[],[6],[2,3,4,5,6,7],qB [8],qB [8,9]] [3,4,5,6,7,8,9,10,11,12,2] (fun l s O=>(Below F F O)∧(l 0=true→s 3=.agg #[.pointer (some ⟨B,0,none⟩)])∧(l 1=true→l 9=false→UH O F (s 4) B [127,128])∧(l 2=true→s 5=.agg #[.pointer (some ⟨B,0,none⟩)])∧(l 3=true→s 6=.func (.func 109) #[.agg #[.pointer (some ⟨B,0,none⟩)]] #[])∧(l 4=true→s 7=.agg #[.pointer (some ⟨B,0,none⟩)])∧(l 5=true→s 8=.func (.func 110) #[.agg #[.pointer (some ⟨B,0,none⟩)]] #[])∧(l 6=true→s 9=.agg #[.pointer (some ⟨B,0,none⟩)])∧(l 7=true→s 10=.func (.func 111) #[.agg #[.pointer (some ⟨B,0,none⟩)]] #[])∧(l 8=true→l 9=false→UH O F (s 11) B [109,110,111])∧(l 9=true→UH O F (s 12) B [127,128,109,110,111])∧(l 10=true→UH O F (s 2) B [127,128,109,110,111])) (fun s=>⟨(Below.refl _ _).drew,nB,nB,nB,nB,nB,nB,nB,nB,nB,nB,nB⟩) ?_ ?_
 refine ⟨?_,?_,?_,?_,?_,?_,?_,?_,?_,?_,?_,trivial⟩;iterate 11 (intro l s O hl G T hf K hK;rotate_left)
 ·intro l s w6 I hf
  have V:Below F F w6:=hf.1;have oR:=(jD hf).2.2.2 (I 10 rfl);clear hf I;go_wp2;go_ret;exact ⟨⟨_,rfl,aL oR M.size⟩,M.trans (V.mono M.size)⟩
 ·have z:=iC H hf.out.1
  have R:=(bO z).1 0;exact Ot
 ·have e0:=(hf.out.2.1 (G 0 rfl))
  go_simp
  go_at_call 77
  refine (vN B _).mono ?_;rintro _ wy ⟨⟨vk,rfl,ok⟩,hE⟩;refine hK.out (upd s 4 (vk)) _ _ yj (kX (bT hf.out.1 hE) (kA (kX (fun _ _=>aL ok (Below.size hf.out.1)) (kC (kB (kX (fun h=>fun J=>own_below (((jD hf.out).2.1 h) J) hE) (kX (nU (T 9 rfl)) (fun _=>nU (T 10 rfl)))))))) hf.out)
 ·have z:=iC H hf.out.1
  have R:=(bO z).1 0;go_simp;refine hK.out (upd s 5 (.agg #[.pointer (some ⟨B,0,none⟩)])) _ _ gM (kB (kA (kX (fun _=>rfl) id)) hf.out)
 ·have e2:=(hf.out.2.2.2.1 (G 2 rfl))
  go_simp;refine hK.out (upd s 6 (.func (.func 109) #[.agg #[.pointer (some ⟨B,0,none⟩)]] #[])) _ _ wR (kC (kX (fun _=>rfl) id) hf.out)
 ·have z:=iC H hf.out.1
  have R:=(bO z).1 0;go_simp;refine hK.out (upd s 7 (.agg #[.pointer (some ⟨B,0,none⟩)])) _ _ gM (kC (kA (kX (fun _=>rfl) id)) hf.out)
 ·have e4:=((jC hf.out).2.1 (G 4 rfl))
  go_simp;refine hK.out (upd s 8 (.func (.func 110) #[.agg #[.pointer (some ⟨B,0,none⟩)]] #[])) _ _ zJ (kC (kB (kX (fun _=>rfl) id)) hf.out)
 ·have z:=iC H hf.out.1
  have R:=(bO z).1 0;go_simp;refine hK.out (upd s 9 (.agg #[.pointer (some ⟨B,0,none⟩)])) _ _ gM (kC (kB (kA (kX (fun _=>rfl) id))) hf.out)
 ·have e6:=((jC hf.out).2.2.2.1 (G 6 rfl))
  go_simp;refine hK.out (upd s 10 (.func (.func 111) #[.agg #[.pointer (some ⟨B,0,none⟩)]] #[])) _ _ (by simp [aX,e6] <;> rfl) (kD (kX (fun _=>rfl) id) hf.out)
 ·have e3:=(hf.out.2.2.2.2.1 (G 3 rfl))
  have e5:=((jC hf.out).2.2.1 (G 5 rfl));have e7:=((jD hf.out).1 (G 7 rfl));go_simp;refine hK.out (upd s 11 (.slice (some ⟨O,0,none⟩) 3 3)) _ _ (by simp [aX,e3,e5,e7] <;> rfl) (kX (bT hf.out.1 (bL _ _)) (kA (kX (fun h=>fun J=>own_below ((hf.out.2.2.1 h) J) (bL _ _)) (kC (kB (kX (fun _ _=>F5 (heap_alloc_new _ _) rfl (Below.size hf.out.1) cB) (kX (nU (T 9 rfl)) (fun _=>nU (T 10 rfl)))))))) hf.out)
 ·have L:=hf.out.1
  have og:=(hf.out.2.2.1 (G 1 rfl)) hl;have ok:=((jD hf.out).2.1 (G 8 rfl)) hl;obtain ⟨ka,kc,ek,Y,kz⟩:=ok.opens;refine Dn rfl _ _ 95 rfl F.heap.size 145 i0 _ 1 8 underlying95 X Z a0 a1 rfl cB (s 4) 2 (Vw B [127,128]) rfl og ka 3 kc (Vw B [109,110,111]) ek kz rfl (Seg.news Y rfl (Le B [109,110,111])) (by simp [Vw,Value.oneCell']) cB cB (Below.size L) ?_;intro v' w' o' g';have U:Below F F w':=mO L g' (Below.size L) (fun q hq=>(og.lt q hq).1)
  refine hK.out (upd s 12 (v')) _ _ (by simp [aX,Act.put] <;> rfl) (kX (U) (kA (kX (fun _ J=>nU J (show upd l 9 true 9=true from rfl)) (kC (kB (kX (fun _ J=>nU J (show upd l 9 true 9=true from rfl)) (kX (fun _=>o') (fun _=>nU (T 10 rfl)))))))) hf.out)
 ·go_simp
  refine hK.out (upd s 2 ((s 12))) _ _ gM (kD (kB (kA (fun _=>fun _=>((jD hf.out).2.2.1 (G 9 rfl))))) hf.out)
theorem NH (x:Wo) (a b d e:Option Addr) (p q r s:Nat) (w:World) (h:lX w w x a b d e) (z:pJ x a b d e p q r s) (m:qi x) :
  Calls prog 18 #[oI x a b d e p q r s] w fun r' w'=>r'=.returned (.bool ([127,128,109,110,111].all (pM x)))∧Below w w w':=by
 have N:Hid (∀ W:World,Below w w W→hp W w=some (.cells #[x.ch.cap,x.ch.sent,x.ch.got,x.ch.fin,.slice a x.ch.cells p,.slice b x.ch.words q,.slice d x.hands r,.slice e x.deals s,x.now] 35)→LB W w x a b d e p q r s):=fun W I Z=>⟨Z,h.atQ I,z,m⟩
 have M:=aA Dx;have F:∀ f ∈ [127,128,109,110,111],f ∈ [127,128,109,110,111]:=by decide
 clear h z m;go_enter func18,ntmps18;go_wp2_with fail;refine aK w zB fun R=>?_
 have z0:=heap_alloc_new w (.cells #[x.ch.cap,x.ch.sent,x.ch.got,x.ch.fin,.slice a x.ch.cells p,.slice b x.ch.words q,.slice d x.hands r,.slice e x.deals s,x.now] 35);refine (Fg w _).mono ?_;rintro _ L ⟨⟨v,rfl,T⟩,G⟩;have H:Below w w L:=bT R G;have O:=N.out L H ((G.block w cK).trans z0);clear N z0 R G;obtain ⟨X,Y,rfl,U,_⟩:=T.opens;clear T;have V:=aA (Bw w [127,128,109,110,111] (pM x) X Y L U cB (fun f K=>M.out f (F f K)) (fun f K W I=>Bz x a b d e p q r s w W (O.on I) f (F f K)))
 clear U O M F;go_wp2_with (go_at_call 58;refine V.out.mono ?_;rintro _ w2 ⟨rfl,J⟩);go_ret;exact ⟨bQ (by simp only [List.all_cons,List.all_nil,Bool.and_true]),bT H J⟩
theorem pO (x:Wo):∀ n (v:Int),v ∈ jf x n↔∃ k:Nat,k<n∧v=(k:Int)∧lT x k=true
 | 0,v=>by simp [jf]
 | n+1,v=>by
  have h:=pO x n v;cases F:lT x n with
  | true =>
   rw [jf,F];simp only [if_true,List.mem_append,List.mem_singleton,h];constructor
   ·rintro (⟨k,h1,h2,h3⟩|rfl)
    ·exact ⟨k,by omega,h2,h3⟩
    ·exact ⟨n,by omega,rfl,F⟩
   ·rintro ⟨k,h1,h2,h3⟩
    by_cases e:k=n
    ·subst e;exact .inr h2
    ·exact .inl ⟨k,by omega,h2,h3⟩
  | false =>
   rw [jf,F];simp only [Bool.false_eq_true,if_false,List.append_nil,h];constructor
   ·rintro ⟨k,h1,h2,h3⟩
    exact ⟨k,by omega,h2,h3⟩
   ·rintro ⟨k,h1,h2,h3⟩
    by_cases e:k=n
    ·subst e;rw [F] at h3;exact Bool.noConfusion h3
    ·exact ⟨k,by omega,h2,h3⟩
theorem Li {P:Int→Bool} {l:List Int}:((l.filter P).length == 0)=true↔∀ v ∈ l,P v=false:=by
 rw [beq_iff_eq,List.length_eq_zero_iff,List.filter_eq_nil_iff];simp
theorem qW (x:Wo) (k:Nat):aJ x (k:Int)=x.hands.getD k Ha.zero:=by simp [aJ]
theorem rZ {x:Wo} (h:iL x x.hands=true) {k:Nat} (F:k<x.hands.length):lT x k=((x.hands.getD k Ha.zero).pos == 23):=by
 have h1:=(uN x _).1 h k F;cases hp:((x.hands.getD k Ha.zero).pos == 23) with
 | false=>unfold lT;rw [qW,hp];rfl
 | true =>
  rw [qW] at h1;have:((x.hands.getD k Ha.zero).pos == 0)=false:=by simp at hp ⊢;omega
  rw [this] at h1;exact h1
theorem Cv {x:Wo} (h:dB x=true) {k:Nat} (F:k<x.hands.length):aU (x.hands.getD k Ha.zero)=true:=by
 simp only [dB,Bool.and_eq_true] at h;have:=List.all_eq_true.1 h.2.1 _ (List.getElem_mem F);simp only [gH,Bool.and_eq_true] at this;simpa [List.getD,List.getElem?_eq_getElem F] using this.1
theorem Ic {h:Ha} (e:aU h=true) (hp:(h.pos == 23)=true):h.code=1∨h.code=2:=by
 have F:h.pos=23:=by simpa using hp
 simp [aU,oG,eD,F] at e;rcases e.1.2 with h1|h1
 ·exact .inl h1.1
 ·exact .inr h1.1
theorem Vr {x:Wo} (H:dB x=true) (h:iL x x.hands=true):(jU x (eX x) == 0)=!x.hands.any (jB 1):=by
 rw [show eX x=jf x x.hands by simp [eX,H],Bool.eq_iff_iff,Bool.not_eq_true']
 unfold jU;rw [Li,Fe];constructor
 ·intro e k F
  unfold jB;cases hp:((x.hands.getD k Ha.zero).pos == 23) with
  | false=>rfl
  | true =>
   have:=e (k:Int) ((pO x _ _).2 ⟨k,F,rfl,by rw [rZ h F];exact hp⟩);rw [qW] at this;rw [this];rfl
 ·intro e v I
  obtain ⟨k,F,rfl,G⟩:=(pO x _ _).1 I;have:=e k F;rw [rZ h F] at G;unfold jB at this;rw [G] at this;rw [qW];exact this
theorem Vs {x:Wo} (H:dB x=true) (h:iL x x.hands=true):(lK x (eX x) == 0)=!x.hands.any (jB 2):=by
 rw [show eX x=jf x x.hands by simp [eX,H],Bool.eq_iff_iff,Bool.not_eq_true']
 unfold lK;rw [Li,Fe];constructor
 ·intro e k F
  unfold jB;cases hp:((x.hands.getD k Ha.zero).pos == 23) with
  | false=>rfl
  | true =>
   have:=e (k:Int) ((pO x _ _).2 ⟨k,F,rfl,by rw [rZ h F];exact hp⟩);rw [qW] at this;simp at this;simp [this]
 ·intro e v I
  obtain ⟨k,F,rfl,G⟩:=(pO x _ _).1 I;have:=e k F;rw [rZ h F] at G;unfold jB at this;rw [G] at this;rw [qW];have hc:=Ic (Cv H F) G;generalize x.hands.getD k Ha.zero=y at *;simp at this ⊢;omega
theorem TM (x:Wo):[127,128,109,110,111].all (pM x)=lV x:=by
 simp only [List.all_cons,List.all_nil,Bool.and_true];rw [show pM x 127=dB x from rfl,show pM x 128=!x.hands.any (lU x.ch) from rfl,Lh,← Bool.and_assoc];show (quietIn x && (decide (((keptIn x.ch).length:Int)≤x.ch.cap) && ((!x.hands.any (jB 1) || (((keptIn x.ch).length:Int) == x.ch.cap)) && (!x.hands.any (jB 2) || ((keptIn x.ch).length == 0 && !x.hands.any (jB 1))))))=lV x;unfold lV;cases F:quietIn x with
 | false=>rfl
 | true =>
  simp only [quietIn,Bool.and_eq_true] at F;rw [Vr F.1 F.2,Vs F.1 F.2]
theorem uY (x:Wo) (a b d e:Option Addr) (p q r s:Nat) (w:World) (h:lX w w x a b d e) (z:pJ x a b d e p q r s) (m:qi x) :
  Calls prog 18 #[oI x a b d e p q r s] w fun F w'=>F=.returned (.bool (lV x))∧Below w w w':=by
 have h1:=NH x a b d e p q r s w h z m;rw [TM] at h1;exact h1
end
end Go.Proofs.YtffhjmepfojhnaaGreat
