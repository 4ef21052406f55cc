/-
  Steps of one alone, of the reference model; lists lie in memory and hold at most 2 ^ 40 elements.
-/
import Derived.Test.YtffhjmepfojhnaaGreatR29
import Derived.Test.YtffhjmepfojhnaaGreatR33
import Derived.Test.YtffhjmepfojhnaaGreatR13
import Derived.Test.YtffhjmepfojhnaaGreatR01
import Derived.Deep.RegionHeld3
import Derived.Deep.DeepCutAuto
import Derived.Test.YtffhjmepfojhnaaGreatR08
import Derived.Test.YtffhjmepfojhnaaGreatR28
import Derived.Test.YtffhjmepfojhnaaGreatR02
import Derived.Test.YtffhjmepfojhnaaGreatR31
import Derived.Test.YtffhjmepfojhnaaGreatR04
set_option maxRecDepth 100000
set_option maxHeartbeats 4000000
set_option linter.unusedSimpArgs false
set_option linter.unusedVariables false
namespace Go.Proofs.YtffhjmepfojhnaaGreat
section
open Go.RowKit
attribute [local simp] aC
attribute [local go_sem ↓] aB aL aM fe au
attribute [local go_sem] eB
theorem lD {w:World} {lo:Nat} {t:TypeId} {n k:Nat} {v:Value} {xs:List Value} {f:Nat→Nat→Value} (h:w.ownsRow lo t k v n xs) (hf:∀ i j,i<n→j<k→xs[i*k+j]?=some (f i j)):∃ (a:Option Addr) (cap:Nat),v=.slice a n cap∧Seg w w.heap.size a n k f∧(a=none→n=0∧cap=0):=by
 obtain ⟨a,cap,rfl,hs⟩:=qw h hf
 refine ⟨a,cap,rfl,hs,fun e=>?_⟩
 subst e
 rcases h.2 with ⟨e,h0⟩|⟨g,cap,cur,e,_⟩
 ·simp at e;exact ⟨h0,e.2⟩
 ·simp at e
theorem ry.opens {w:World} {lo:Nat} {v1 v2 v3 v4:Value} {y:Wo} (h:ry w lo v1 v2 v3 v4 y):∃ (a b d e:Option Addr) (p q r s:Nat),v1=.slice a y.ch.cells.length p∧v2=.slice b y.ch.words.length q∧v3=.slice d y.hands.length r∧v4=.slice e y.deals.length s∧eY w w.heap.size a y.ch.cells∧(a=none→p=0)∧eQ w w.heap.size b y.ch.words∧(b=none→q=0)∧Jn w w.heap.size d y.hands∧(d=none→y.hands.length=0∧r=0)∧Jo w w.heap.size e y.deals∧(e=none→y.deals.length=0∧s=0):=by
 obtain ⟨h1,h2,h3,h4⟩:=h
 obtain ⟨a,p,e1,s1,z1⟩:=lD h1 fun i j hi hj=>iD y.ch.cells i j hi hj
 obtain ⟨b,q,e2,s2,z2⟩:=lD (f:=gX y.ch.words) h2 fun i j hi hj=>by
  have:j=0:=by omega
  subst this
  simp [ints,gX,List.getD,hi]
 obtain ⟨d,r,e3,s3,z3⟩:=lD h3 fun i j hi hj=>jy y.hands i j hi hj
 obtain ⟨e,s,e4,s4,z4⟩:=lD h4 fun i j hi hj=>mJ y.deals i j hi hj
 exact ⟨a,b,d,e,p,q,r,s,e1,e2,e3,e4,s1,fun h=>(z1 h).2,s2,fun h=>(z2 h).2,s3,z3,s4,z4⟩
theorem Ip {y:Wo} (h:EB y):y.ch.cells.length≤1099511627776∧y.ch.words.length≤1099511627776∧y.hands.length≤1099511627776∧y.deals.length≤1099511627776:=by
 have:=qi h.ch;have:=h.h6;have:=h.d
 omega
end
section
open Go.RowKit
attribute [local simp] aC
attribute [local go_sem ↓] aB aU aL bB aM bC aG aN au aF
theorem EE (x:St) (c:Ch) (h:Ha) (a b:Option Addr) (p q:Nat) (w:World) (h1:eY w w.heap.size a c.cells) (z1:a=none→p=0) (h2:eQ w w.heap.size b c.words) (z2:b=none→q=0)
  (hs:∀ (a b:Option Addr) (p q:Nat) (w:World),eY w w.heap.size a c.cells→(a=none→p=0)→eQ w w.heap.size b c.words→(b=none→q=0)→Calls Tryz.prog 173 #[.agg (af c (.slice a c.cells.length p) (.slice b c.words.length q)),.agg (aa h)] w fun r w'=>bV w w' x r) :
  Calls Tryz.prog 126 #[.agg (af c (.slice a c.cells.length p) (.slice b c.words.length q)),.agg (aa h)] w fun r w'=>r=.returned (.bool (eZ x))∧Below w.heap.size w w':=by
 have H1:=Lib.hid h1
 have H2:=Lib.hid h2
 have Z1:=Lib.hid z1
 have Z2:=Lib.hid z2
 have HS:=Lib.hid hs
 clear h1 h2 z1 z2 hs
 go_enter Tryz.func126,Tryz.ntmps126
 go_wp2_with fail;refine ax w zB fun bb=>?_;refine (HS.out _ _ _ _ _ (aT H1 bb) Z1.out (aT H2 bb) Z2.out).mono ?_;rintro _ w9 ⟨⟨y1,y2,rfl,aV,aX,dL,dI⟩,eG⟩;obtain ⟨sI,jc,zz⟩:=CK bb eG (b:=w.heap.size);(try simp at jc);(try simp [go_sem] at zz);replace bX:=zS zz;clear zz eG bb
 obtain ⟨ya,yp,rfl,_⟩:=aV.seg
 obtain ⟨yb,yq,rfl,_⟩:=aX.seg
 cases hx:x.2.2 with
 | true =>
  go_wp2
  go_ret
  exact ⟨by simp [eZ,hx],by exact zB⟩
 | false =>
  go_wp2
  go_ret
  exact ⟨by simp [eZ,hx],by exact zB⟩
end
section
def jR (x:Wo) (i:Nat):Bool:=(dH x (i:Int)).pos == 23 && eZ (iH x.ch (dH x (i:Int)))
def fU (x:Wo):Nat→List Int
 | 0=>[]
 | k+1=>if jR x k then fU x k ++ [(k:Int)] else fU x k
def eU (x:Wo):List Int:=if bJ x then fU x x.hands.length else []
def gJ (x:Wo):Nat→Bool
 | 0=>true
 | k+1=>gJ x k && ((dH x (k:Int)).pos == 0 || jR x k)
def quietIn (x:Wo):Bool:=bJ x && gJ x x.hands.length
def sN (x:Wo) (l:List Int):Nat:=(l.filter fun i=>(dH x i).code == 1).length
def zy (x:Wo) (l:List Int):Nat:=(l.filter fun i=>!((dH x i).code == 1)).length
def rF (x:Wo):Bool:=quietIn x && (decide (((keptIn x.ch).length:Int)≤x.ch.cap) && ((sN x (eU x) == 0 || ((keptIn x.ch).length:Int) == x.ch.cap) && (zy x (eU x) == 0 || ((keptIn x.ch).length == 0 && sN x (eU x) == 0))))
def ji (ds:List De):List Int:=(ds.filter fun d=>d.reply == 1).map De.elem
def mV (ds:List De):List Int:=(ds.filter fun d=>d.reply == 2).map De.out
def iy (l:List Int) (n:Int):Nat:=(l.filter fun m=>m == n).length
def nM (x:Wo):Bool:=quietIn x && ((ji x.deals).all (fun n=>iy (ji x.deals) n == iy (mV x.deals ++ keptIn x.ch) n) && (ji x.deals).length == (mV x.deals ++ keptIn x.ch).length)
end
section
open Go.RowKit
attribute [local simp] aC
attribute [local go_sem ↓] aB aL aM fe au
attribute [local go_sem] eB
theorem wH (x:Wo) (i:Nat) (hi:i<x.hands.length) (a b d e:Option Addr) (p q r s:Nat) (w:World) (h1:eY w w.heap.size a x.ch.cells) (z1:a=none→p=0) (h2:eQ w w.heap.size b x.ch.words) (z2:b=none→q=0) (h3:Jn w w.heap.size d x.hands) (h4:Jo w w.heap.size e x.deals) (m1:x.ch.cells.length≤1099511627776) (m3:x.hands.length≤1099511627776) (m4:x.deals.length≤1099511627776) :
  Calls Tryz.prog 75 #[xc x a b d e p q r s,.int .i64 i] w fun r' w'=>r'=.returned (.bool (jR x i))∧Below w.heap.size w w':=by
 have H1:=Lib.hid h1
 have H2:=Lib.hid h2
 have H3:=Lib.hid h3
 have H4:=Lib.hid h4
 have Z1:=Lib.hid z1
 have Z2:=Lib.hid z2
 clear h1 h2 h3 h4 z1 z2
 obtain ⟨b3,o3,rfl,hb3,hc3⟩:∃ b o,d=some ⟨b,o,none⟩∧b<w.heap.size∧Hid (∀ i j,i<x.hands.length→j<14→w.cell? ⟨b,o+i*14+j,none⟩=some (fI x.hands i j)):=by
  rcases H3.out with h0|h0
  ·omega
  ·exact h0
 have Ld:∀ W:World,hp W b3=hp w b3→(nP (.pointer (some ⟨b3,o3+i*14,none⟩))).run Tryz.prog W=.ok (.agg (aa (dH x i))) W:=fun W e=>nu _ fun j hj=>by rw [show (aa (dH x i)).getD j (.int .i64 0)=fI x.hands i j by simp [fI,dH],← hc3.out i j hi hj];exact World.cell?_of_block e
 have hi0:(0:Int)≤(i:Int):=by omega
 have hi1:(i:Int)<(x.hands.length:Int):=by omega
 have T:=Lib.hid fun a b p q W y1 y2 y3 y4=>EE (iH x.ch (dH x i)) x.ch (dH x i) a b p q W y1 y2 y3 y4 (fun a b p q W y1 y2 y3 y4=>Ic x.ch (dH x i) a b p q W y1 y2 y3 y4)
 have X7:b3<w.heap.size+1:=by omega
 have OX:b3≠w.heap.size:=by omega
 have c0:w.cell? ⟨b3,o3+i*14,none⟩=some (.int .i64 (dH x i).pos):=(hc3.out i 0 hi tO).trans (by simp [fI,dH,aa,Array.getD])
 unfold jR
 by_cases hps:(dH x (i:Int)).pos=23
 ·rw [hps] at c0
  go_enter Tryz.func75,Tryz.ntmps75
  go_wp2_with fail
  go_region_held3 (fun w'=>w'.cell? ⟨w.heap.size,0,none⟩=some (.int .i64 x.ch.cap)∧w'.cell? ⟨w.heap.size,1,none⟩=some (.int .i64 x.ch.sent)∧w'.cell? ⟨w.heap.size,2,none⟩=some (.int .i64 x.ch.got)∧w'.cell? ⟨w.heap.size,3,none⟩=some (.int .i64 x.ch.fin)∧w'.cell? ⟨w.heap.size,4,none⟩=some (.slice a x.ch.cells.length p)∧w'.cell? ⟨w.heap.size,5,none⟩=some (.slice b x.ch.words.length q)∧w'.cell? ⟨w.heap.size,6,none⟩=some (.slice (some ⟨b3,o3,none⟩) x.hands.length r)∧hp w' b3=hp w b3∧w'.cell? ⟨b3,o3+i*14,none⟩=some (.int .i64 23))
   (first|(simp [*,go_sem]))
   (first|(go_at_call 126;refine (T.out a b p q _ ((H1.out.below zB).more tS) Z1.out ((H2.out.below zB).more tS) Z2.out).mono ?_;rintro _ w2 ⟨rfl,hb2⟩;have hB2:Below w.heap.size w w2:=bT zB hb2;have xb:=fun o=>hb2.cell (p:=⟨w.heap.size,o,none⟩) (by simp);(simp [go_sem] at xb);have zb:hp w2 b3=hp w b3:=hB2.block b3 hb3;have cb:=hB2.cell (p:=⟨b3,o3+i*14,none⟩) hb3;rw [c0] at cb))
  all_goals go_wp2
  all_goals exact bodyPost_ret (v:=.bool (eZ (iH x.ch (dH x i)))) (by simp [results,Tryz.results75,go_sem]) rfl ⟨by simp [hps],hB2⟩
 ·have hpb:((dH x (i:Int)).pos == 23)=false:=by simpa using hps
  go_enter Tryz.func75,Tryz.ntmps75
  go_wp2_with fail
  go_region
  go_wp2
  go_ret
  exact ⟨by simp [hps],by exact zB⟩
end
section
open Go.RowKit
attribute [local simp] aC
attribute [local go_sem ↓] aB aL aM fe au
attribute [local go_sem] eB
theorem sw {x:Wo} {k:Nat} (h:gJ x k=true) (e:((dH x (k:Int)).pos == 0 || jR x k)=true):gJ x (k+1)=true:=by simp [gJ,h,e]
theorem uX {x:Wo} {k:Nat} (e:((dH x (k:Int)).pos == 0 || jR x k)=false):∀ n,k<n→gJ x n=false
 | 0,h=>absurd h (Nat.not_lt_zero _)
 | n+1,h=>by
  by_cases hk:k=n
  ·subst hk;simp [gJ,e]
  ·simp [gJ,uX e n tO]
theorem qO (x:Wo) (a b d e:Option Addr) (p q r s:Nat) (w:World) (h1:eY w w.heap.size a x.ch.cells) (z1:a=none→p=0) (h2:eQ w w.heap.size b x.ch.words) (z2:b=none→q=0) (h3:Jn w w.heap.size d x.hands) (h4:Jo w w.heap.size e x.deals) (m1:x.ch.cells.length≤1099511627776) (m3:x.hands.length≤1099511627776) (m4:x.deals.length≤1099511627776) :
  Calls Tryz.prog 33 #[xc x a b d e p q r s] w fun r' w'=>r'=.returned (.bool (quietIn x))∧Below w.heap.size w w':=by
 have H1:=Lib.hid h1
 have H2:=Lib.hid h2
 have H3:=Lib.hid h3
 have H4:=Lib.hid h4
 have Z1:=Lib.hid z1
 have Z2:=Lib.hid z2
 clear h1 h2 h3 h4 z1 z2
 cases hk:bJ x with
 | false =>
  have e0:quietIn x=false:=by simp [quietIn,hk]
  rw [e0]
  go_enter Tryz.func33,Tryz.ntmps33
  go_wp2_with fail;refine ax w zB fun bb=>?_;refine (qx x a b d e p q r s _ (aT H1 bb) (aT H2 bb) (aT H3 bb) (aT H4 bb) m3 m4).mono ?_;rintro _ w1 ⟨rfl,ah⟩;have aW:Below w.heap.size w w1:=bT bb ah;have ay:=ah.size;(try simp at ay);have zz:=hQ ah (b:=w.heap.size);(try simp [go_sem] at zz);(try clear dw dV eD dJ);have dw:=zz;clear zz;obtain ⟨dV,eD,dJ⟩:=bO dw;clear ah bb
  rw [hk]
  go_wp2
  go_ret
  exact ⟨rfl,by exact zB⟩
 | true =>
  have e0:quietIn x=gJ x x.hands.length:=by simp [quietIn,hk]
  rw [e0]
  go_enter Tryz.func33,Tryz.ntmps33
  go_wp2_with fail;refine ax w zB fun bb=>?_;refine (qx x a b d e p q r s _ (aT H1 bb) (aT H2 bb) (aT H3 bb) (aT H4 bb) m3 m4).mono ?_;rintro _ w1 ⟨rfl,ah⟩;have aW:Below w.heap.size w w1:=bT bb ah;have ay:=ah.size;(try simp at ay);have zz:=hQ ah (b:=w.heap.size);(try simp [go_sem] at zz);(try clear dw dV eD dJ);have dw:=zz;clear zz;obtain ⟨dV,eD,dJ⟩:=bO dw;clear ah bb
  rw [hk]
  have hB1:Below w.heap.size w w1:=by exact zB
  go_wp2
  go_loopw [3] (fun i wr=>∃ k:Nat,k≤x.hands.length∧i=.int .i64 k∧Hid (gJ x k=true)∧hp wr w.heap.size=some (.cells #[.int .i64 x.ch.cap,.int .i64 x.ch.sent,.int .i64 x.ch.got,.int .i64 x.ch.fin,.slice a x.ch.cells.length p,.slice b x.ch.words.length q,.slice d x.hands.length r,.slice e x.deals.length s,.int .i64 x.now] 35)∧w.heap.size<wr.heap.size∧Below w.heap.size w wr) (fun i _=>x.hands.length - (intOf i).toNat)
  case atStart=>exact ⟨0,Nat.zero_le _,rfl,rfl,by simp [go_sem, *],by omega,hB1⟩
  case round =>
   obtain ⟨k,hk,rfl,hall,dw,dJ,hB⟩:=hrel
   clear dV eD
   have dV:∀ o,wr.cell? ⟨w.heap.size,o,none⟩=_:=fun o=>cell_of_row wr w.heap.size o _ _ _ dw
   have eD:∀ o,wr.frozen? ⟨w.heap.size,o,none⟩=false:=o9 dw
   by_cases hlt:k<x.hands.length
   ·have hk0:(0:Int)≤(k:Int):=by omega
    have hk1:(k:Int)<(x.hands.length:Int):=by omega
    have PP:=wH x k hlt a b d e p q r s wr (H1.out.below hB |>.more hB.size) Z1.out (H2.out.below hB |>.more hB.size) Z2.out (H3.out.below hB |>.more hB.size) (H4.out.below hB |>.more hB.size) m1 m3 m4
    obtain ⟨b3,o3,rfl,hb3,hc3⟩:∃ b o,d=some ⟨b,o,none⟩∧b<w.heap.size∧(∀ i j,i<x.hands.length→j<14→w.cell? ⟨b,o+i*14+j,none⟩=some (fI x.hands i j)):=by
     rcases H3.out with h0|h0
     ·omega
     ·exact h0
    have c0:wr.cell? ⟨b3,o3+k*14,none⟩=some (.int .i64 (dH x (k:Int)).pos):=(hB.cell (p:=⟨b3,o3+k*14,none⟩) hb3).trans ((hc3 k 0 hlt tO).trans (by simp [fI,dH,aa,Array.getD]))
    clear hc3
    by_cases hp0:(dH x (k:Int)).pos=0
    ·go_wp2
     go_roundw
     case rel=>exact ⟨k+1,by omega,by go_num,sw hall.out (by simp [hp0]),dw,by omega,hB⟩
     case measure=>simp [intOf];omega
    ·cases hpk:jR x k with
     | true =>
      rw [hpk] at PP
      go_wp2_with fail;refine ax w zB fun bb=>?_;refine ax wr zB fun bk=>?_;refine (PP).mono ?_;rintro _ w5 ⟨rfl,dD⟩;have oM:Below w.heap.size w w5:=bT bb dD;have iL:=dD.size;(try simp at iL);have zz:=hQ dD (b:=w.heap.size);(first|simp [go_sem,dw,dJ] at zz|simp [go_sem] at zz|skip);(try clear dw dV eD dJ);have dw:=zz;clear zz;obtain ⟨dV,eD,dJ⟩:=bO dw;have jH:Below wr.heap.size wr w5:=bT bk dD;clear dD bb bk
      have Sm:Below w.heap.size w w5:=bT hB jH
      go_wp2
      go_roundw
      case rel=>exact ⟨k+1,by omega,by go_num,sw hall.out (by simp [hpk]),dw,by omega,Sm⟩
      case measure=>simp [intOf];omega
     | false =>
      rw [hpk] at PP
      go_wp2_with fail;refine ax w zB fun bb=>?_;refine ax wr zB fun bk=>?_;refine (PP).mono ?_;rintro _ w5 ⟨rfl,dD⟩;have oM:Below w.heap.size w w5:=bT bb dD;have iL:=dD.size;(try simp at iL);have zz:=hQ dD (b:=w.heap.size);(first|simp [go_sem,dw,dJ] at zz|simp [go_sem] at zz|skip);(try clear dw dV eD dJ);have dw:=zz;clear zz;obtain ⟨dV,eD,dJ⟩:=bO dw;have jH:Below wr.heap.size wr w5:=bT bk dD;clear dD bb bk
      have Sm:Below w.heap.size w w5:=bT hB jH
      go_wp2
      go_ret
      exact ⟨bF (uX (by simp [hp0,hpk]) _ hlt).symm,Sm⟩
   ·have:k=x.hands.length:=by omega
    subst this
    go_wp2
    go_ret
    exact ⟨bF (by have:=hall.out;exact this.symm),hB⟩
end
section
open Go.RowKit
attribute [local simp] aC
attribute [local go_sem ↓] aB aU aL bB aM bC aG aN au aF
theorem xO {α:Type} (l:List α):l.take l.length=l:=List.take_length
theorem Iq {ds:List De} {k:Nat} {d:De} (hk:k<ds.length) (hc:ds.getD k De.zero=d) (e:(d.reply == 1)=true):ji (ds.take (k+1))=ji (ds.take k) ++ [d.elem]:=by
 rw [fK ds k De.zero hk,hc];simp [ji,List.filter_append,e]
theorem KT {ds:List De} {k:Nat} {d:De} (hk:k<ds.length) (hc:ds.getD k De.zero=d) (e:(d.reply == 1)=false):ji (ds.take (k+1))=ji (ds.take k):=by
 rw [fK ds k De.zero hk,hc];simp [ji,List.filter_append,e]
theorem xP (ds:List De) (k:Nat):(ji (ds.take k)).length≤k:=by
 have h:=List.length_filter_le (fun d:De=>d.reply == 1) (ds.take k)
 have:=List.length_take_le k ds
 simp only [ji,List.length_map]
 omega
theorem Ce (ds:List De) (d:Option Addr) (s:Nat) (w:World) (h4:Jo w w.heap.size d ds) (m4:ds.length≤1099511627776) :
  Calls Tryz.prog 60 #[.slice d ds.length s] w fun r' w'=>(∃ v,r'=.returned v∧ai w' w.heap.size v (ji ds))∧Below w.heap.size w w':=by
 obtain ⟨i0,hi0,hz0,hz1,hz2⟩:=info_parts ku
 have HE:=Lib.hid (congrArg ji (xO ds))
 have H4:=Lib.hid h4
 clear h4
 go_enter Tryz.func60,Tryz.ntmps60
 go_wp2
 go_loopw [3,4] (fun v i wr=>∃ k:Nat,k≤ds.length∧i=.int .i64 k∧ai wr w.heap.size v (ji (ds.take k))∧w.heap.size≤wr.heap.size∧Below w.heap.size w wr) (fun _ i _=>ds.length - (intOf i).toNat)
 case atStart=>exact ⟨0,Nat.zero_le _,rfl,by rw [show ji (ds.take 0)=[] from rfl];exact gu _ _ _ _ _ (by simp) (by simp),by (try simp),by exact zB⟩
 case round =>
  obtain ⟨k,hk,rfl,hown,hlt1,hB⟩:=hrel
  by_cases hlt:k<ds.length
  ·obtain h0|⟨bb,bo,rfl,hb,hc⟩:=H4.out
   ·omega
   have c5:=(hB.cell (p:=⟨bb,bo+k*7+5,none⟩) hb).trans (hc k 5 hlt tO)
   have c0:=(hB.cell (p:=⟨bb,bo+k*7+2,none⟩) hb).trans (hc k 2 hlt tO)
   simp only [nW] at c0 c5
   clear hc
   generalize hcg:ds.getD k De.zero=x at c0 c5
   have HC:=Lib.hid hcg
   clear hcg
   simp [iY,Array.getD] at c0 c5
   have hle:=xP ds k
   have hk0:(0:Int)≤(k:Int):=by omega
   have hk1:(k:Int)<(ds.length:Int):=by omega
   go_wp2_with (at_builtin;refine wpList_append_own _ rfl _ _ 29 rfl w.heap.size 2 i0 _ 1 8 Tryz.underlying29 hi0 hz0 hz1 hz2 rfl (by decide) _ _ _ rfl (hown.alloc _) ⟨wr.heap.size,0,none⟩ 1 1 [.int .i64 x.elem] rfl rfl (KM _ _ _) (by simp [Value.oneCell']) ?c3 ?c4 ?c5 ?_)
   case c3=>unfold maxLen;omega
   case c4=>omega
   case c5=>simp;omega
   ·intro v4 w4 kJ hg _
    have hs4:=hg.size
    simp at hs4
    have hB4:Below w.heap.size w w4:=iE zB hg (by simp;omega) (fun q hq=>by have:=(hown.lt q hq).1;omega)
    have ht:(x.reply == 1)=true:=by assumption
    have hown5:ai w4 w.heap.size v4 (ji (ds.take (k+1))):=by
     rw [Iq hlt HC.out ht];exact ai.snoc kJ
    clear kJ hg hown
    go_wp2
    go_roundw
    case rel=>exact ⟨k+1,by omega,by go_num,hown5,by omega,hB4⟩
    case measure=>simp [intOf];omega
   ·go_roundw
    case rel=>exact ⟨k+1,by omega,by go_num,by rw [KT hlt HC.out ‹_›];exact hown,hlt1,hB⟩
    case measure=>simp [intOf];omega
  ·have:k=ds.length:=by omega
   subst this
   go_wp2
   go_ret
   exact ⟨⟨_,rfl,HE.out ▸ hown⟩,hB⟩
theorem KU {ds:List De} {k:Nat} {d:De} (hk:k<ds.length) (hc:ds.getD k De.zero=d) (e:(d.reply == 2)=true):mV (ds.take (k+1))=mV (ds.take k) ++ [d.out]:=by
 rw [fK ds k De.zero hk,hc];simp [mV,List.filter_append,e]
theorem Nv {ds:List De} {k:Nat} {d:De} (hk:k<ds.length) (hc:ds.getD k De.zero=d) (e:(d.reply == 2)=false):mV (ds.take (k+1))=mV (ds.take k):=by
 rw [fK ds k De.zero hk,hc];simp [mV,List.filter_append,e]
theorem Cf (ds:List De) (k:Nat):(mV (ds.take k)).length≤k:=by
 have h:=List.length_filter_le (fun d:De=>d.reply == 2) (ds.take k)
 have:=List.length_take_le k ds
 simp only [mV,List.length_map]
 omega
theorem EF (ds:List De) (d:Option Addr) (s:Nat) (w:World) (h4:Jo w w.heap.size d ds) (m4:ds.length≤1099511627776) :
  Calls Tryz.prog 29 #[.slice d ds.length s] w fun r' w'=>(∃ v,r'=.returned v∧ai w' w.heap.size v (mV ds))∧Below w.heap.size w w':=by
 obtain ⟨i0,hi0,hz0,hz1,hz2⟩:=info_parts ku
 have HE:=Lib.hid (congrArg mV (xO ds))
 have H4:=Lib.hid h4
 clear h4
 go_enter Tryz.func29,Tryz.ntmps29
 go_wp2
 go_loopw [3,4] (fun v i wr=>∃ k:Nat,k≤ds.length∧i=.int .i64 k∧ai wr w.heap.size v (mV (ds.take k))∧w.heap.size≤wr.heap.size∧Below w.heap.size w wr) (fun _ i _=>ds.length - (intOf i).toNat)
 case atStart=>exact ⟨0,Nat.zero_le _,rfl,by rw [show mV (ds.take 0)=[] from rfl];exact gu _ _ _ _ _ (by simp) (by simp),by (try simp),by exact zB⟩
 case round =>
  obtain ⟨k,hk,rfl,hown,hlt1,hB⟩:=hrel
  by_cases hlt:k<ds.length
  ·obtain h0|⟨bb,bo,rfl,hb,hc⟩:=H4.out
   ·omega
   have c5:=(hB.cell (p:=⟨bb,bo+k*7+5,none⟩) hb).trans (hc k 5 hlt tO)
   have c0:=(hB.cell (p:=⟨bb,bo+k*7+6,none⟩) hb).trans (hc k 6 hlt tO)
   simp only [nW] at c0 c5
   clear hc
   generalize hcg:ds.getD k De.zero=x at c0 c5
   have HC:=Lib.hid hcg
   clear hcg
   simp [iY,Array.getD] at c0 c5
   have hle:=Cf ds k
   have hk0:(0:Int)≤(k:Int):=by omega
   have hk1:(k:Int)<(ds.length:Int):=by omega
   go_wp2_with (at_builtin;refine wpList_append_own _ rfl _ _ 29 rfl w.heap.size 2 i0 _ 1 8 Tryz.underlying29 hi0 hz0 hz1 hz2 rfl (by decide) _ _ _ rfl (hown.alloc _) ⟨wr.heap.size,0,none⟩ 1 1 [.int .i64 x.out] rfl rfl (KM _ _ _) (by simp [Value.oneCell']) ?c3 ?c4 ?c5 ?_)
   case c3=>unfold maxLen;omega
   case c4=>omega
   case c5=>simp;omega
   ·intro v4 w4 kJ hg _
    have hs4:=hg.size
    simp at hs4
    have hB4:Below w.heap.size w w4:=iE zB hg (by simp;omega) (fun q hq=>by have:=(hown.lt q hq).1;omega)
    have ht:(x.reply == 2)=true:=by assumption
    have hown5:ai w4 w.heap.size v4 (mV (ds.take (k+1))):=by
     rw [KU hlt HC.out ht];exact ai.snoc kJ
    clear kJ hg hown
    go_wp2
    go_roundw
    case rel=>exact ⟨k+1,by omega,by go_num,hown5,by omega,hB4⟩
    case measure=>simp [intOf];omega
   ·go_roundw
    case rel=>exact ⟨k+1,by omega,by go_num,by rw [Nv hlt HC.out ‹_›];exact hown,hlt1,hB⟩
    case measure=>simp [intOf];omega
  ·have:k=ds.length:=by omega
   subst this
   go_wp2
   go_ret
   exact ⟨⟨_,rfl,HE.out ▸ hown⟩,hB⟩
end
section
open Go.RowKit
attribute [local simp] aC
attribute [local go_sem ↓] aB aU aL bB aM bC aG aN au aF
theorem Ir {l:List Int} {n:Int} {k:Nat} {m:Int} (hk:k<l.length) (hc:l.getD k 0=m) (e:(m == n)=true):iy (l.take (k+1)) n=iy (l.take k) n+1:=by
 rw [fK l k 0 hk,hc];simp [iy,List.filter_append,e]
theorem KV {l:List Int} {n:Int} {k:Nat} {m:Int} (hk:k<l.length) (hc:l.getD k 0=m) (e:(m == n)=false):iy (l.take (k+1)) n=iy (l.take k) n:=by
 rw [fK l k 0 hk,hc];simp [iy,List.filter_append,e]
theorem Iu (l:List Int) (n:Int) (k:Nat):iy (l.take k) n≤k:=by
 have h:=List.length_filter_le (fun m:Int=>m == n) (l.take k)
 have:=List.length_take_le k l
 unfold iy
 omega
theorem l7 (l:List Int) (n:Int) (d:Option Addr) (s:Nat) (w:World) (h4:eQ w w.heap.size d l) (m4:l.length≤1099511627776) :
  Calls Tryz.prog 62 #[.slice d l.length s,.int .i64 n] w fun r' w'=>r'=.returned (.int .i64 (iy l n))∧w'=w:=by
 have HE:=Lib.hid (congrArg (fun z=>iy z n) (List.take_length (l:=l)))
 have H4:=Lib.hid h4
 clear h4
 go_enter Tryz.func62,Tryz.ntmps62
 go_wp2
 go_loopw [5,6] (fun v i wr=>wr=w∧∃ k:Nat,k≤l.length∧i=.int .i64 k∧v=.int .i64 (iy (l.take k) n)) (fun _ i _=>l.length - (intOf i).toNat)
 case atStart=>exact ⟨rfl,0,Nat.zero_le _,rfl,rfl⟩
 case round =>
  obtain ⟨rfl,k,hk,rfl,rfl⟩:=hrel
  by_cases hlt:k<l.length
  ·obtain h0|⟨bb,bo,rfl,hb,hc⟩:=H4.out
   ·omega
   have c0:=hc k 0 hlt tO
   simp only [gX,Nat.mul_one,Nat.add_zero] at c0
   clear hc
   generalize hcg:l.getD k 0=x at c0
   have HC:=Lib.hid hcg
   clear hcg
   have hle:=Iu l n k
   have hk0:(0:Int)≤(k:Int):=by omega
   have hk1:(k:Int)<(l.length:Int):=by omega
   by_cases hx:x=n
   ·have e:=Ir (n:=n) hlt HC.out (by simp [hx])
    go_wp2
    go_roundw
    case rel=>exact ⟨trivial,k+1,by omega,by go_num,by rw [e];go_num⟩
    case measure=>simp [intOf];omega
   ·have e:=KV (n:=n) hlt HC.out (by simp [hx])
    go_wp2
    go_roundw
    case rel=>exact ⟨trivial,k+1,by omega,by go_num,by rw [e]⟩
    case measure=>simp [intOf];omega
  ·have:k=l.length:=by omega
   subst this
   go_wp2
   go_ret
   exact ⟨by rw [HE.out];rfl,rfl⟩
end
section
open Go.RowKit
attribute [local simp] aC
attribute [local go_sem ↓] aB aL aM fe au
attribute [local go_sem] eB
theorem Iw {l:List Int} {k:Nat} {p:Int→Bool} (hk:k<l.length) (h:(l.take k).all p=true) (e:p (l.getD k 0)=true):(l.take (k+1)).all p=true:=by
 rw [fK l k 0 hk,List.all_append,h]
 simp only [List.all_cons,List.all_nil,e]
 rfl
theorem KW {l:List Int} {k:Nat} {p:Int→Bool} (hk:k<l.length) (e:p (l.getD k 0)=false):l.all p=false:=by
 rw [Bool.eq_false_iff]
 intro h
 have:=List.all_eq_true.1 h (l.getD k 0) (by simp [List.getD,hk])
 rw [this] at e
 cases e
theorem wI {w W:World} (h:Below w.heap.size w W) (n:Nat):Below w.heap.size w (W.drewN n):=⟨h.os,h.tape,h.output,h.size,h.block⟩
theorem Cg {x:Wo} (hk:quietIn x=true):aK x.ch=true∧x.deals.length≤1000:=by
 unfold quietIn at hk
 have hw:=(Bool.and_eq_true_iff.1 hk).1
 unfold bJ at hw
 obtain ⟨h1,_,_,h4,_⟩:=xg (Bool.and_eq_true_iff.1 hw).1
 exact ⟨h1,h4⟩
theorem Iy (c:Ch):(keptIn c).length≤c.cells.length:=by
 unfold keptIn
 split
 ·simp only [List.length_map];exact lS 2 c.cells 0
 ·simp
theorem Ci (l:List Int):∀ i j,i<l.length→j<1→(ints l)[i*1+j]?=some (gX l i j):=fun i j hi hj=>by
 have:j=0:=by omega
 subst this
 simp [ints,gX,List.getD,hi]
theorem ai.opens2 {w:World} {lo:Nat} {v:Value} {l:List Int} (h:ai w lo v l):∃ a p,v=.slice a l.length p∧eQ w w.heap.size a l∧(a=none→l.length=0∧p=0):=lD (f:=gX l) h (Ci l)
theorem ai.app {w:World} {lo:Nat} {v:Value} {l m:List Int} (h:w.ownsRow lo 2 1 v (l.length+m.length) (ints l ++ ints m)):ai w lo v (l ++ m):=by
 unfold ai
 rw [List.length_append,show ints (l ++ m)=ints l ++ ints m by simp [ints]]
 exact h
theorem zA (x:Wo) (a b d e:Option Addr) (p q r s0:Nat) (w:World) (h1:eY w w.heap.size a x.ch.cells) (z1:a=none→p=0) (h2:eQ w w.heap.size b x.ch.words) (z2:b=none→q=0) (h3:Jn w w.heap.size d x.hands) (h4:Jo w w.heap.size e x.deals) (m1:x.ch.cells.length≤1099511627776) (m3:x.hands.length≤1099511627776) (m4:x.deals.length≤1099511627776) :
  Calls Tryz.prog 19 #[xc x a b d e p q r s0] w fun r' w'=>r'=.returned (.bool (nM x))∧Below w.heap.size w w':=by
 have H1:=Lib.hid h1
 have H2:=Lib.hid h2
 have H3:=Lib.hid h3
 have H4:=Lib.hid h4
 have Z1:=Lib.hid z1
 have Z2:=Lib.hid z2
 clear h1 h2 h3 h4 z1 z2
 cases hk:quietIn x with
 | false =>
  have e0:nM x=false:=by simp [nM,hk]
  rw [e0]
  go_enter Tryz.func19,Tryz.ntmps19
  go_wp2_with fail;refine ax w zB fun bb=>?_;refine (qO x a b d e p q r s0 _ (aT H1 bb) Z1.out (aT H2 bb) Z2.out (aT H3 bb) (aT H4 bb) m1 m3 m4).mono ?_;rintro _ w1 ⟨rfl,ah⟩;have aW:Below w.heap.size w w1:=bT bb ah;have ay:=ah.size;(try simp at ay);have zz:=hQ ah (b:=w.heap.size);(try simp [go_sem] at zz);(try clear dw dV eD dJ);have dw:=zz;clear zz;obtain ⟨dV,eD,dJ⟩:=bO dw;clear ah bb
  rw [hk]
  go_wp2
  go_ret
  exact ⟨rfl,by exact zB⟩
 | true =>
  have HE:Hid (nM x=((ji x.deals).all (fun n=>iy (ji x.deals) n == iy (mV x.deals ++ keptIn x.ch) n) && (ji x.deals).length == (mV x.deals ++ keptIn x.ch).length)):=by simp [Hid,nM,hk]
  obtain ⟨i0,hi0,hz0,hz1,hz2⟩:=info_parts ku
  obtain ⟨hc1,hc4⟩:=Cg hk
  have hc2:=(dU hc1).1
  clear hc1
  have KK:=Lib.hid (Cb x.ch)
  have SS:=Lib.hid (Ce x.deals)
  have GG:=Lib.hid (EF x.deals)
  have ls:(ji x.deals).length≤x.deals.length:=by have:=xP x.deals x.deals.length;rwa [List.take_length] at this
  have lg:(mV x.deals).length≤x.deals.length:=by have:=Cf x.deals x.deals.length;rwa [List.take_length] at this
  have lk:(keptIn x.ch).length≤x.ch.cells.length:=Iy x.ch
  have lr2:(mV x.deals).length+(keptIn x.ch).length≤1099511627776:=by omega
  clear hc2 hc4
  go_enter Tryz.func19,Tryz.ntmps19
  go_wp2_with fail;refine ax w zB fun bb=>?_;refine (qO x a b d e p q r s0 _ (aT H1 bb) Z1.out (aT H2 bb) Z2.out (aT H3 bb) (aT H4 bb) m1 m3 m4).mono ?_;rintro _ w1 ⟨rfl,ah⟩;have aW:Below w.heap.size w w1:=bT bb ah;have ay:=ah.size;(try simp at ay);have zz:=hQ ah (b:=w.heap.size);(try simp [go_sem] at zz);(try clear dw dV eD dJ);have dw:=zz;clear zz;obtain ⟨dV,eD,dJ⟩:=bO dw;clear ah bb
  rw [hk]
  generalize ji x.deals=sl at *
  generalize mV x.deals=gl at *
  generalize keptIn x.ch=kl at *
  go_wp2_with fail;refine ax w zB fun bb=>?_;refine (SS.out e s0 _ (aT H4 bb) m4).mono ?_;rintro _ w3 ⟨⟨vs,rfl,os⟩,aO⟩;have ig:Below w.heap.size w w3:=bT bb aO;have df:=aO.size;(try simp at df);have zz:=hQ aO (b:=w.heap.size);(first|simp [go_sem,dw,dJ] at zz|simp [go_sem] at zz|skip);(try clear dw dV eD dJ);have dw:=zz;clear zz;obtain ⟨dV,eD,dJ⟩:=bO dw;clear aO bb
  obtain ⟨sa,sc,rfl,hss⟩:=ai.seg os
  clear os SS
  have LS:=Lib.hid hss
  clear hss
  have hB3:Below w.heap.size w w3:=by exact zB
  go_upto_region 4 with fail
  refine bI [[],[0],[0,1],[],[3],[3,4],[0,1,2,3,4,5],[0,1,2,3,4,5,6]] [12,13,14,15,16,17,18,4] (fun l s wx=>(Below w3.heap.size w3 wx)∧(l 0=true→s 12=.pointer (some ⟨w.heap.size,7,none⟩))∧(l 1=true→s 13=.slice e x.deals.length s0)∧(l 2=true→l 6=false→ai wx w3.heap.size (s 14) gl)∧(l 3=true→s 15=.pointer (some ⟨w.heap.size,0,none⟩))∧(l 4=true→s 16=.agg #[.int .i64 x.ch.cap,.int .i64 x.ch.sent,.int .i64 x.ch.got,.int .i64 x.ch.fin,.slice a x.ch.cells.length p,.slice b x.ch.words.length q])∧(l 5=true→l 6=false→ai wx w3.heap.size (s 17) kl)∧(l 6=true→ai wx w3.heap.size (s 18) (gl ++ kl))∧(l 7=true→ai wx w3.heap.size (s 4) (gl ++ kl))) (by kernel_rfl) (by kernel_rfl) (by kernel_rfl) (fun s=>by (simp only [fill,fC,List.setIfInBounds_toArray,List.set_cons_zero,List.set_cons_succ];rfl)) (fun s=>⟨(Below.refl _ _).drew,nB,nB,nB,nB,nB,nB,nB,nB⟩) ?_ ?_
  refine ⟨?_,?_,?_,?_,?_,?_,?_,?_,trivial⟩;iterate 8 (intro l s wx hl hd hn hf K hK;rotate_left)
  ·intro l s w4 hall hf
   have Pk:Below w3.heap.size w3 w4:=hf.1
   have oR:=((jD hf) (hall 7 rfl))
   obtain ⟨ra,rc,er,hrs,_⟩:=ai.opens2 oR
   simp only [er]
   clear oR er hf hall
   have hB4:Below w.heap.size w w4:=bT hB3 Pk
   replace LS:=Lib.hid ((LS.out.below Pk).more (Below.size Pk))
   have lr:(gl ++ kl).length≤1099511627776+40:=by rw [List.length_append];omega
   have mr:(gl ++ kl).length≤1099511627776:=by rw [List.length_append];exact lr2
   generalize gl ++ kl=rl at *
   have LR:=Lib.hid hrs
   clear hrs
   have ms:sl.length≤1099511627776:=by omega
   go_wp2
   go_loopw [5] (fun i wr=>∃ k:Nat,k≤sl.length∧i=.int .i64 k∧Hid ((sl.take k).all (fun n=>iy sl n == iy rl n)=true)∧Below w4.heap.size w4 wr) (fun i _=>sl.length - (intOf i).toNat)
   case atStart=>exact ⟨0,Nat.zero_le _,rfl,rfl,by first|exact Below.refl _ _|exact zB⟩
   case round =>
    obtain ⟨k,hk,rfl,hall,hB⟩:=hrel
    by_cases hlt:k<sl.length
    ·have hk0:(0:Int)≤(k:Int):=by omega
     have hk1:(k:Int)<(sl.length:Int):=by omega
     obtain ⟨lb,lo,rfl,hlb,hlc⟩:∃ b o,sa=some ⟨b,o,none⟩∧b<w4.heap.size∧(∀ i j,i<sl.length→j<1→w4.cell? ⟨b,o+i*1+j,none⟩=some (gX sl i j)):=by
      rcases LS.out with h0|h0
      ·omega
      ·exact h0
     have c2:wr.cell? ⟨lb,lo+k,none⟩=some (gX sl k 0):=(hB.cell (p:=⟨lb,lo+k,none⟩) hlb).trans (by have:=hlc k 0 hlt tO;simpa using this)
     clear hlc
     simp only [gX] at c2
     generalize hcg:sl.getD k 0=n at c2
     have HC:=Lib.hid hcg
     clear hcg
     by_cases hcn:iy sl n=iy rl n
     ·go_wp2_with fail
      go_quiet (first|(go_at_call_of 62 sl.length;refine Calls.quiet_of_same (l7 sl n _ sc _ ?_ ms);exact (LS.out.below (wI hB _)).more (wI hB _).size)|(go_at_call_of 62 rl.length;refine Calls.quiet_of_same (l7 rl n _ rc _ ?_ mr);exact (LR.out.below (wI hB _)).more (wI hB _).size))
      go_wp2
      go_roundw
      case rel=>exact ⟨k+1,by omega,by go_num,Iw hlt hall.out (by rw [HC.out];simp [hcn]),wI hB _⟩
      case measure=>simp [intOf];omega
     ·go_wp2_with fail
      go_quiet (first|(go_at_call_of 62 sl.length;refine Calls.quiet_of_same (l7 sl n _ sc _ ?_ ms);exact (LS.out.below (wI hB _)).more (wI hB _).size)|(go_at_call_of 62 rl.length;refine Calls.quiet_of_same (l7 rl n _ rc _ ?_ mr);exact (LR.out.below (wI hB _)).more (wI hB _).size))
      go_wp2
      go_ret
      exact ⟨bF (by rw [HE.out,KW hlt (by rw [HC.out];simp [hcn])];rfl),bT hB4 (wI hB _)⟩
    ·have:k=sl.length:=by omega
     subst this
     have hal:=hall.out
     rw [List.take_length] at hal
     by_cases WE:sl.length=rl.length
     ·go_wp2
      go_ret
      exact ⟨bF (by rw [HE.out,hal];simp [WE]),bT hB4 hB⟩
     ·go_wp2
      go_ret
      exact ⟨bF (by rw [HE.out,hal,Bool.eq_iff_iff];simp <;> omega),bT hB4 hB⟩
  ·go_simp
   refine hK.out (upd s 12 (.pointer (some ⟨w.heap.size,7,none⟩))) _ _ (by simp [ae] <;> rfl) (kA (kX (fun _=>rfl) id) hf.out)
  ·have e0:=(hf.out.2.1 (hd 0 rfl))
   have zz:=bO (dS dw hf.out.1)
   have z7:=zz.1 7
   simp [go_sem] at z7
   go_simp
   refine hK.out (upd s 13 (.slice e x.deals.length s0)) _ _ (by simp [ae,e0] <;> rfl) (kB (kX (fun _=>rfl) id) hf.out)
  ·have e1:=(hf.out.2.2.1 (hd 1 rfl))
   go_simp
   go_at_call 29
   refine (GG.out e s0 _ ((H4.out.below (bT hB3 hf.out.1)).more (Below.size (bT hB3 hf.out.1))) m4).mono ?_
   rintro _ wy ⟨⟨vg,rfl,og⟩,hE⟩
   refine hK.out (upd s 14 (vg)) _ _ (by simp [ae,e1] <;> rfl) (kX (bT hf.out.1 hE) (kB (kX (fun _ _=>av og (Below.size hf.out.1)) (kB (kX (fun h=>fun h4=>own_below (((jC hf.out).2.2.1 h) h4) hE) (kX (nU (hn 6 rfl)) (fun _=>nU (hn 7 rfl))))))) hf.out)
  ·go_simp
   refine hK.out (upd s 15 (.pointer (some ⟨w.heap.size,0,none⟩))) _ _ (by simp [ae] <;> rfl) (kC (kX (fun _=>rfl) id) hf.out)
  ·have e3:=(hf.out.2.2.2.2.1 (hd 3 rfl))
   have zz:=bO (dS dw hf.out.1)
   have z0:=zz.1 0
   have z1:=zz.1 1
   have z2:=zz.1 2
   have z3:=zz.1 3
   have z4:=zz.1 4
   have z5:=zz.1 5
   simp [go_sem] at z0 z1 z2 z3 z4 z5
   go_simp
   refine hK.out (upd s 16 (.agg #[.int .i64 x.ch.cap,.int .i64 x.ch.sent,.int .i64 x.ch.got,.int .i64 x.ch.fin,.slice a x.ch.cells.length p,.slice b x.ch.words.length q])) _ _ (by simp [ae,e3] <;> rfl) (kC (kA (kX (fun _=>rfl) id)) hf.out)
  ·have e4:=((jC hf.out).2.1 (hd 4 rfl))
   go_simp
   go_at_call 61
   refine (KK.out a b p q _ ((H1.out.below (bT hB3 hf.out.1)).more (Below.size (bT hB3 hf.out.1))) ((H2.out.below (bT hB3 hf.out.1)).more (Below.size (bT hB3 hf.out.1))) m1).mono ?_
   rintro _ wy ⟨⟨vk,rfl,ok⟩,hE⟩
   refine hK.out (upd s 17 (vk)) _ _ (by simp [ae,e4] <;> rfl) (kX (bT hf.out.1 hE) (kB (kX (fun h=>fun h4=>own_below ((hf.out.2.2.2.1 h) h4) hE) (kB (kX (fun _ _=>av ok (Below.size hf.out.1)) (kX (nU (hn 6 rfl)) (fun _=>nU (hn 7 rfl))))))) hf.out)
  ·have JG:=hf.out.1
   have og:=(hf.out.2.2.2.1 (hd 2 rfl)) hl
   have ok:=((jC hf.out).2.2.1 (hd 5 rfl)) hl
   obtain ⟨ka,kc,ek,hks,kz⟩:=ai.opens2 ok
   refine oK rfl _ _ 29 rfl w3.heap.size 2 i0 _ 1 8 Tryz.underlying29 hi0 hz0 hz1 hz2 rfl (by decide) (s 14) gl.length (ints gl) rfl og ka kl.length kc (ints kl) ek kz (by simp [ints]) (Seg.news hks (by simp [ints]) (Ci kl)) (by simp [ints,Value.oneCell']) (by unfold maxLen;omega) tO (Below.size JG) ?_
   intro v' w' o' g'
   have Sn:Below w3.heap.size w3 w':=iE JG g' (Below.size JG) (fun q hq=>(og.lt q hq).1)
   refine hK.out (upd s 18 (v')) _ _ (by simp [ae,Act.put] <;> rfl) (kX (Sn) (kB (kX (fun _ h4=>nU h4 (show upd l 6 true 6=true from rfl)) (kB (kX (fun _ h4=>nU h4 (show upd l 6 true 6=true from rfl)) (kX (fun _=>ai.app o') (fun _=>nU (hn 7 rfl))))))) hf.out)
  ·go_simp
   refine hK.out (upd s 4 ((s 18))) _ _ (by simp [ae] <;> rfl) (kD (fun _=>fun _=>((jC hf.out).2.2.2.1 (hd 6 rfl))) hf.out)
end
end Go.Proofs.YtffhjmepfojhnaaGreat
