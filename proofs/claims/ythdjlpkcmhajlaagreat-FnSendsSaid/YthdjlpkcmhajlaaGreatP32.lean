/-
  The program's step of sending, every case, on hands and channels that are kept whole; lists lie in memory and hold at most as much as memory can hold.
  FnSends returns true for every list of bytes that it is called with, and turns nothing; no condition.
  How the arguments of the laws are opened: numbers, structs of numbers, and slices of these; no condition but that they can be read.
  How a list of bytes is opened that is an argument of a law; no condition but that it can be read.
-/
import Derived.Test.YthdjlpkcmhajlaaGreatP31
import Derived.Test.YthdjlpkcmhajlaaGreatP26
import Derived.Test.YthdjlpkcmhajlaaGreatP27
import Derived.Test.YthdjlpkcmhajlaaGreatRows
import Derived.Test.YthdjlpkcmhajlaaGreatP02
import Derived.Test.YthdjlpkcmhajlaaGreatP01
import Derived.ProofKit
import Derived.OpenShut
import Derived.ShutString
import Derived.ChangeOld
import Derived.Deep.Slices
import Derived.Deep.Fields
set_option linter.unusedSimpArgs false
set_option linter.unusedVariables false
namespace Go.Proofs.YthdjlpkcmhajlaaGreat
open Go.RowKit
set_option linter.unusedSimpArgs false
attribute [local simp] bx_size
attribute [local go_sem ↓] zeroHand zeroChan toLHand toLChan toVHand toVChan storeHand storeChan storeHandC storeChanC
set_option maxRecDepth 100000 in
set_option maxHeartbeats 4000000 in
theorem sNo_1 (c:Ch) (h:Ha) (a b:Option Addr) (p q:Nat) (w:World) (h1:Seg w w.heap.size a c.cells.length 3 (cellF c.cells)) (z1:a=none→p=0) (h2:Seg w w.heap.size b c.words.length 1 (intF c.words)) (z2:b=none→q=0) (l1:c.cells.length≤maxLen) (l2:c.words.length≤maxLen) (hc:chanOk c=false) :
    Calls Tryz.prog 6 #[.agg (cvals c (.slice a c.cells.length p) (.slice b c.words.length q)),.agg (hvals h)] w fun r w'=>StepN w w' nothing r:=by
  have H1:=Lib.hid h1
  have H2:=Lib.hid h2
  have T:=Lib.hid fun W=>refused_any W w.heap.size (.slice none 0 0) (.slice none 0 0)
  generalize nothing=x at *
  clear h1 h2 z1 z2
  have d1:∀ j,(Value.slice none 0 0).ownBlock=some j→w.heap.size+1+1+1+1≤j:=fun j hj=>by cases hj
  have d2:=d1
  go_enter Tryz.func6,Tryz.ntmps6
  go_wp2_with fail;refine bHit w (by exact zB) fun bb=>?_;refine (iChanOk_any c a b p q _ ((H1.out.below bb).more bb.size) ((H2.out.below bb).more bb.size) l1 l2).mono ?_;rintro _ w1 ⟨rfl,hbw1⟩;have hCw1:Below w.heap.size w w1:=bT bb hbw1;have hsw1:=hbw1.size;(try simp at hsw1);have zz:=q4 hbw1 (b:=w.heap.size);(try simp [go_sem] at zz);(try clear z_wppp x_wppp f_wppp l_wppp);(try clear z_wpp x_wpp f_wpp l_wpp);(try clear z_wp x_wp f_wp l_wp);(try clear z_w x_w f_w l_w);obtain ⟨z_wppp,z_wpp,z_wp,z_w⟩:=zz;obtain ⟨x_wppp,f_wppp,l_wppp⟩:=bO z_wppp;obtain ⟨x_wpp,f_wpp,l_wpp⟩:=bO z_wpp;obtain ⟨x_wp,f_wp,l_wp⟩:=bO z_wp;obtain ⟨x_w,f_w,l_w⟩:=bO z_w;clear hbw1 bb
  rw [hc]
  go_wp2_with fail;refine bHit w (by exact zB) fun bb=>?_;refine (T.out _).mono ?_;rintro _ w9 ⟨⟨y1,y2,rfl,oY1,oY2,fY1,fY2⟩,hbw9⟩;have hCw9:Below w.heap.size w w9:=bT bb hbw9;have hsw9:=hbw9.size;(try simp at hsw9);have zz:=q4 hbw9 (b:=w.heap.size);(first|simp [go_sem,z_wppp,z_wpp,z_wp,z_w,l_w,l_wp,l_wpp,l_wppp] at zz|simp [go_sem] at zz|skip);(try clear z_wppp x_wppp f_wppp l_wppp);(try clear z_wpp x_wpp f_wpp l_wpp);(try clear z_wp x_wp f_wp l_wp);(try clear z_w x_w f_w l_w);obtain ⟨z_wppp,z_wpp,z_wp,z_w⟩:=zz;obtain ⟨x_wppp,f_wppp,l_wppp⟩:=bO z_wppp;obtain ⟨x_wpp,f_wpp,l_wpp⟩:=bO z_wpp;obtain ⟨x_wp,f_wp,l_wp⟩:=bO z_wp;obtain ⟨x_w,f_w,l_w⟩:=bO z_w;clear hbw9 bb
  have hoff1:∀ j,w.heap.size≤j→j<w.heap.size+1+1+1+1→y1.ownBlock≠some j:=fun j _ h2=>fY1.off2 d1 h2 (by (try simp) <;> omega);have hoff2:∀ j,w.heap.size≤j→j<w.heap.size+1+1+1+1→y2.ownBlock≠some j:=fun j _ h2=>fY2.off2 d2 h2 (by (try simp) <;> omega);have fr1:Fresh w (.slice none 0 0) y1:=fun j hj=>.inr (fY1.up d1 (by (try simp) <;> omega) (by (try simp) <;> omega) j hj);have fr2:Fresh w (.slice none 0 0) y2:=fun j hj=>.inr (fY2.up d2 (by (try simp) <;> omega) (by (try simp) <;> omega) j hj);obtain ⟨ya,yp,rfl,_⟩:=oY1.seg;obtain ⟨yb,yq,rfl,_⟩:=oY2.seg
  go_wp2
  refine bodyPost_ret (res_cct Tryz.results6 rfl (ldChan x.1 (.slice ya x.1.cells.length yp) (.slice yb x.1.words.length yq) (by simp [go_sem, *])) rfl (ldHand x.2.1 (by simp [go_sem, *]))) rfl ⟨⟨_,_,rfl,?_,?_,fr1,fr2⟩,by exact zB⟩
  · exact zP oY1 oY1 hoff1
  · exact zP oY2 oY2 hoff2
set_option maxRecDepth 100000 in
set_option maxHeartbeats 4000000 in
theorem sNo_2 (c:Ch) (h:Ha) (a b:Option Addr) (p q:Nat) (w:World) (h1:Seg w w.heap.size a c.cells.length 3 (cellF c.cells)) (z1:a=none→p=0) (h2:Seg w w.heap.size b c.words.length 1 (intF c.words)) (z2:b=none→q=0) (l1:c.cells.length≤maxLen) (l2:c.words.length≤maxLen) (hc:chanOk c=true) (hh:handOk h=false) :
    Calls Tryz.prog 6 #[.agg (cvals c (.slice a c.cells.length p) (.slice b c.words.length q)),.agg (hvals h)] w fun r w'=>StepN w w' nothing r:=by
  have H1:=Lib.hid h1
  have H2:=Lib.hid h2
  have T:=Lib.hid fun W=>refused_any W w.heap.size (.slice none 0 0) (.slice none 0 0)
  generalize nothing=x at *
  clear h1 h2 z1 z2
  have d1:∀ j,(Value.slice none 0 0).ownBlock=some j→w.heap.size+1+1+1+1≤j:=fun j hj=>by cases hj
  have d2:=d1
  go_enter Tryz.func6,Tryz.ntmps6
  go_wp2_with fail;refine bHit w (by exact zB) fun bb=>?_;refine (iChanOk_any c a b p q _ ((H1.out.below bb).more bb.size) ((H2.out.below bb).more bb.size) l1 l2).mono ?_;rintro _ w1 ⟨rfl,hbw1⟩;have hCw1:Below w.heap.size w w1:=bT bb hbw1;have hsw1:=hbw1.size;(try simp at hsw1);have zz:=q4 hbw1 (b:=w.heap.size);(try simp [go_sem] at zz);(try clear z_wppp x_wppp f_wppp l_wppp);(try clear z_wpp x_wpp f_wpp l_wpp);(try clear z_wp x_wp f_wp l_wp);(try clear z_w x_w f_w l_w);obtain ⟨z_wppp,z_wpp,z_wp,z_w⟩:=zz;obtain ⟨x_wppp,f_wppp,l_wppp⟩:=bO z_wppp;obtain ⟨x_wpp,f_wpp,l_wpp⟩:=bO z_wpp;obtain ⟨x_wp,f_wp,l_wp⟩:=bO z_wp;obtain ⟨x_w,f_w,l_w⟩:=bO z_w;clear hbw1 bb
  rw [hc]
  go_wp2_with fail;refine bHit w (by exact zB) fun bb=>?_;refine (handOk_any h _).mono ?_;rintro _ w2 ⟨rfl,hbw2⟩;have hCw2:Below w.heap.size w w2:=bT bb hbw2;have hsw2:=hbw2.size;(try simp at hsw2);have zz:=q4 hbw2 (b:=w.heap.size);(first|simp [go_sem,z_wppp,z_wpp,z_wp,z_w,l_w,l_wp,l_wpp,l_wppp] at zz|simp [go_sem] at zz|skip);(try clear z_wppp x_wppp f_wppp l_wppp);(try clear z_wpp x_wpp f_wpp l_wpp);(try clear z_wp x_wp f_wp l_wp);(try clear z_w x_w f_w l_w);obtain ⟨z_wppp,z_wpp,z_wp,z_w⟩:=zz;obtain ⟨x_wppp,f_wppp,l_wppp⟩:=bO z_wppp;obtain ⟨x_wpp,f_wpp,l_wpp⟩:=bO z_wpp;obtain ⟨x_wp,f_wp,l_wp⟩:=bO z_wp;obtain ⟨x_w,f_w,l_w⟩:=bO z_w;clear hbw2 bb
  rw [hh]
  go_wp2_with fail;refine bHit w (by exact zB) fun bb=>?_;refine (T.out _).mono ?_;rintro _ w9 ⟨⟨y1,y2,rfl,oY1,oY2,fY1,fY2⟩,hbw9⟩;have hCw9:Below w.heap.size w w9:=bT bb hbw9;have hsw9:=hbw9.size;(try simp at hsw9);have zz:=q4 hbw9 (b:=w.heap.size);(first|simp [go_sem,z_wppp,z_wpp,z_wp,z_w,l_w,l_wp,l_wpp,l_wppp] at zz|simp [go_sem] at zz|skip);(try clear z_wppp x_wppp f_wppp l_wppp);(try clear z_wpp x_wpp f_wpp l_wpp);(try clear z_wp x_wp f_wp l_wp);(try clear z_w x_w f_w l_w);obtain ⟨z_wppp,z_wpp,z_wp,z_w⟩:=zz;obtain ⟨x_wppp,f_wppp,l_wppp⟩:=bO z_wppp;obtain ⟨x_wpp,f_wpp,l_wpp⟩:=bO z_wpp;obtain ⟨x_wp,f_wp,l_wp⟩:=bO z_wp;obtain ⟨x_w,f_w,l_w⟩:=bO z_w;clear hbw9 bb
  have hoff1:∀ j,w.heap.size≤j→j<w.heap.size+1+1+1+1→y1.ownBlock≠some j:=fun j _ h2=>fY1.off2 d1 h2 (by (try simp) <;> omega);have hoff2:∀ j,w.heap.size≤j→j<w.heap.size+1+1+1+1→y2.ownBlock≠some j:=fun j _ h2=>fY2.off2 d2 h2 (by (try simp) <;> omega);have fr1:Fresh w (.slice none 0 0) y1:=fun j hj=>.inr (fY1.up d1 (by (try simp) <;> omega) (by (try simp) <;> omega) j hj);have fr2:Fresh w (.slice none 0 0) y2:=fun j hj=>.inr (fY2.up d2 (by (try simp) <;> omega) (by (try simp) <;> omega) j hj);obtain ⟨ya,yp,rfl,_⟩:=oY1.seg;obtain ⟨yb,yq,rfl,_⟩:=oY2.seg
  go_wp2
  refine bodyPost_ret (res_cct Tryz.results6 rfl (ldChan x.1 (.slice ya x.1.cells.length yp) (.slice yb x.1.words.length yq) (by simp [go_sem, *])) rfl (ldHand x.2.1 (by simp [go_sem, *]))) rfl ⟨⟨_,_,rfl,?_,?_,fr1,fr2⟩,by exact zB⟩
  · exact zP oY1 oY1 hoff1
  · exact zP oY2 oY2 hoff2
set_option maxRecDepth 100000 in
set_option maxHeartbeats 4000000 in
theorem sNo_3 (c:Ch) (h:Ha) (a b:Option Addr) (p q:Nat) (w:World) (h1:Seg w w.heap.size a c.cells.length 3 (cellF c.cells)) (z1:a=none→p=0) (h2:Seg w w.heap.size b c.words.length 1 (intF c.words)) (z2:b=none→q=0) (l1:c.cells.length≤maxLen) (l2:c.words.length≤maxLen) (hc:chanOk c=true) (hh:handOk h=true) (hk:(h.code != 1)=true) :
    Calls Tryz.prog 6 #[.agg (cvals c (.slice a c.cells.length p) (.slice b c.words.length q)),.agg (hvals h)] w fun r w'=>StepN w w' nothing r:=by
  have H1:=Lib.hid h1
  have H2:=Lib.hid h2
  have T:=Lib.hid fun W=>refused_any W w.heap.size (.slice none 0 0) (.slice none 0 0)
  generalize nothing=x at *
  clear h1 h2 z1 z2
  have d1:∀ j,(Value.slice none 0 0).ownBlock=some j→w.heap.size+1+1+1+1≤j:=fun j hj=>by cases hj
  have d2:=d1
  go_enter Tryz.func6,Tryz.ntmps6
  go_wp2_with fail;refine bHit w (by exact zB) fun bb=>?_;refine (iChanOk_any c a b p q _ ((H1.out.below bb).more bb.size) ((H2.out.below bb).more bb.size) l1 l2).mono ?_;rintro _ w1 ⟨rfl,hbw1⟩;have hCw1:Below w.heap.size w w1:=bT bb hbw1;have hsw1:=hbw1.size;(try simp at hsw1);have zz:=q4 hbw1 (b:=w.heap.size);(try simp [go_sem] at zz);(try clear z_wppp x_wppp f_wppp l_wppp);(try clear z_wpp x_wpp f_wpp l_wpp);(try clear z_wp x_wp f_wp l_wp);(try clear z_w x_w f_w l_w);obtain ⟨z_wppp,z_wpp,z_wp,z_w⟩:=zz;obtain ⟨x_wppp,f_wppp,l_wppp⟩:=bO z_wppp;obtain ⟨x_wpp,f_wpp,l_wpp⟩:=bO z_wpp;obtain ⟨x_wp,f_wp,l_wp⟩:=bO z_wp;obtain ⟨x_w,f_w,l_w⟩:=bO z_w;clear hbw1 bb
  rw [hc]
  go_wp2_with fail;refine bHit w (by exact zB) fun bb=>?_;refine (handOk_any h _).mono ?_;rintro _ w2 ⟨rfl,hbw2⟩;have hCw2:Below w.heap.size w w2:=bT bb hbw2;have hsw2:=hbw2.size;(try simp at hsw2);have zz:=q4 hbw2 (b:=w.heap.size);(first|simp [go_sem,z_wppp,z_wpp,z_wp,z_w,l_w,l_wp,l_wpp,l_wppp] at zz|simp [go_sem] at zz|skip);(try clear z_wppp x_wppp f_wppp l_wppp);(try clear z_wpp x_wpp f_wpp l_wpp);(try clear z_wp x_wp f_wp l_wp);(try clear z_w x_w f_w l_w);obtain ⟨z_wppp,z_wpp,z_wp,z_w⟩:=zz;obtain ⟨x_wppp,f_wppp,l_wppp⟩:=bO z_wppp;obtain ⟨x_wpp,f_wpp,l_wpp⟩:=bO z_wpp;obtain ⟨x_wp,f_wp,l_wp⟩:=bO z_wp;obtain ⟨x_w,f_w,l_w⟩:=bO z_w;clear hbw2 bb
  rw [hh]
  go_wp2_with fail;refine bHit w (by exact zB) fun bb=>?_;refine (T.out _).mono ?_;rintro _ w9 ⟨⟨y1,y2,rfl,oY1,oY2,fY1,fY2⟩,hbw9⟩;have hCw9:Below w.heap.size w w9:=bT bb hbw9;have hsw9:=hbw9.size;(try simp at hsw9);have zz:=q4 hbw9 (b:=w.heap.size);(first|simp [go_sem,z_wppp,z_wpp,z_wp,z_w,l_w,l_wp,l_wpp,l_wppp] at zz|simp [go_sem] at zz|skip);(try clear z_wppp x_wppp f_wppp l_wppp);(try clear z_wpp x_wpp f_wpp l_wpp);(try clear z_wp x_wp f_wp l_wp);(try clear z_w x_w f_w l_w);obtain ⟨z_wppp,z_wpp,z_wp,z_w⟩:=zz;obtain ⟨x_wppp,f_wppp,l_wppp⟩:=bO z_wppp;obtain ⟨x_wpp,f_wpp,l_wpp⟩:=bO z_wpp;obtain ⟨x_wp,f_wp,l_wp⟩:=bO z_wp;obtain ⟨x_w,f_w,l_w⟩:=bO z_w;clear hbw9 bb
  have hoff1:∀ j,w.heap.size≤j→j<w.heap.size+1+1+1+1→y1.ownBlock≠some j:=fun j _ h2=>fY1.off2 d1 h2 (by (try simp) <;> omega);have hoff2:∀ j,w.heap.size≤j→j<w.heap.size+1+1+1+1→y2.ownBlock≠some j:=fun j _ h2=>fY2.off2 d2 h2 (by (try simp) <;> omega);have fr1:Fresh w (.slice none 0 0) y1:=fun j hj=>.inr (fY1.up d1 (by (try simp) <;> omega) (by (try simp) <;> omega) j hj);have fr2:Fresh w (.slice none 0 0) y2:=fun j hj=>.inr (fY2.up d2 (by (try simp) <;> omega) (by (try simp) <;> omega) j hj);obtain ⟨ya,yp,rfl,_⟩:=oY1.seg;obtain ⟨yb,yq,rfl,_⟩:=oY2.seg
  go_wp2
  refine bodyPost_ret (res_cct Tryz.results6 rfl (ldChan x.1 (.slice ya x.1.cells.length yp) (.slice yb x.1.words.length yq) (by simp [go_sem, *])) rfl (ldHand x.2.1 (by simp [go_sem, *]))) rfl ⟨⟨_,_,rfl,?_,?_,fr1,fr2⟩,by exact zB⟩
  · exact zP oY1 oY1 hoff1
  · exact zP oY2 oY2 hoff2
set_option maxRecDepth 100000 in
set_option maxHeartbeats 4000000 in
theorem sNo_4 (c:Ch) (h:Ha) (a b:Option Addr) (p q:Nat) (w:World) (h1:Seg w w.heap.size a c.cells.length 3 (cellF c.cells)) (z1:a=none→p=0) (h2:Seg w w.heap.size b c.words.length 1 (intF c.words)) (z2:b=none→q=0) (l1:c.cells.length≤maxLen) (l2:c.words.length≤maxLen) (hc:chanOk c=true) (hh:handOk h=true) (hk:(h.code != 1)=false) (hp:(9:Int)≤h.pos) :
    Calls Tryz.prog 6 #[.agg (cvals c (.slice a c.cells.length p) (.slice b c.words.length q)),.agg (hvals h)] w fun r w'=>StepN w w' nothing r:=by
  have H1:=Lib.hid h1
  have H2:=Lib.hid h2
  have T:=Lib.hid fun W=>refused_any W w.heap.size (.slice none 0 0) (.slice none 0 0)
  generalize nothing=x at *
  clear h1 h2 z1 z2
  have d1:∀ j,(Value.slice none 0 0).ownBlock=some j→w.heap.size+1+1+1+1≤j:=fun j hj=>by cases hj
  have d2:=d1
  go_enter Tryz.func6,Tryz.ntmps6
  go_wp2_with fail;refine bHit w (by exact zB) fun bb=>?_;refine (iChanOk_any c a b p q _ ((H1.out.below bb).more bb.size) ((H2.out.below bb).more bb.size) l1 l2).mono ?_;rintro _ w1 ⟨rfl,hbw1⟩;have hCw1:Below w.heap.size w w1:=bT bb hbw1;have hsw1:=hbw1.size;(try simp at hsw1);have zz:=q4 hbw1 (b:=w.heap.size);(try simp [go_sem] at zz);(try clear z_wppp x_wppp f_wppp l_wppp);(try clear z_wpp x_wpp f_wpp l_wpp);(try clear z_wp x_wp f_wp l_wp);(try clear z_w x_w f_w l_w);obtain ⟨z_wppp,z_wpp,z_wp,z_w⟩:=zz;obtain ⟨x_wppp,f_wppp,l_wppp⟩:=bO z_wppp;obtain ⟨x_wpp,f_wpp,l_wpp⟩:=bO z_wpp;obtain ⟨x_wp,f_wp,l_wp⟩:=bO z_wp;obtain ⟨x_w,f_w,l_w⟩:=bO z_w;clear hbw1 bb
  rw [hc]
  go_wp2_with fail;refine bHit w (by exact zB) fun bb=>?_;refine (handOk_any h _).mono ?_;rintro _ w2 ⟨rfl,hbw2⟩;have hCw2:Below w.heap.size w w2:=bT bb hbw2;have hsw2:=hbw2.size;(try simp at hsw2);have zz:=q4 hbw2 (b:=w.heap.size);(first|simp [go_sem,z_wppp,z_wpp,z_wp,z_w,l_w,l_wp,l_wpp,l_wppp] at zz|simp [go_sem] at zz|skip);(try clear z_wppp x_wppp f_wppp l_wppp);(try clear z_wpp x_wpp f_wpp l_wpp);(try clear z_wp x_wp f_wp l_wp);(try clear z_w x_w f_w l_w);obtain ⟨z_wppp,z_wpp,z_wp,z_w⟩:=zz;obtain ⟨x_wppp,f_wppp,l_wppp⟩:=bO z_wppp;obtain ⟨x_wpp,f_wpp,l_wpp⟩:=bO z_wpp;obtain ⟨x_wp,f_wp,l_wp⟩:=bO z_wp;obtain ⟨x_w,f_w,l_w⟩:=bO z_w;clear hbw2 bb
  rw [hh]
  go_wp2_with fail;refine bHit w (by exact zB) fun bb=>?_;refine (touches_any _).mono ?_;rintro _ w3 ⟨rfl,hbw3⟩;have hCw3:Below w.heap.size w w3:=bT bb hbw3;have hsw3:=hbw3.size;(try simp at hsw3);have zz:=q4 hbw3 (b:=w.heap.size);(first|simp [go_sem,z_wppp,z_wpp,z_wp,z_w,l_w,l_wp,l_wpp,l_wppp] at zz|simp [go_sem] at zz|skip);(try clear z_wppp x_wppp f_wppp l_wppp);(try clear z_wpp x_wpp f_wpp l_wpp);(try clear z_wp x_wp f_wp l_wp);(try clear z_w x_w f_w l_w);obtain ⟨z_wppp,z_wpp,z_wp,z_w⟩:=zz;obtain ⟨x_wppp,f_wppp,l_wppp⟩:=bO z_wppp;obtain ⟨x_wpp,f_wpp,l_wpp⟩:=bO z_wpp;obtain ⟨x_wp,f_wp,l_wp⟩:=bO z_wp;obtain ⟨x_w,f_w,l_w⟩:=bO z_w;clear hbw3 bb
  unfold tbl
  go_wp2_with fail;refine bHit w (by exact zB) fun bb=>?_;refine (T.out _).mono ?_;rintro _ w9 ⟨⟨y1,y2,rfl,oY1,oY2,fY1,fY2⟩,hbw9⟩;have hCw9:Below w.heap.size w w9:=bT bb hbw9;have hsw9:=hbw9.size;(try simp at hsw9);have zz:=q4 hbw9 (b:=w.heap.size);(first|simp [go_sem,z_wppp,z_wpp,z_wp,z_w,l_w,l_wp,l_wpp,l_wppp] at zz|simp [go_sem] at zz|skip);(try clear z_wppp x_wppp f_wppp l_wppp);(try clear z_wpp x_wpp f_wpp l_wpp);(try clear z_wp x_wp f_wp l_wp);(try clear z_w x_w f_w l_w);obtain ⟨z_wppp,z_wpp,z_wp,z_w⟩:=zz;obtain ⟨x_wppp,f_wppp,l_wppp⟩:=bO z_wppp;obtain ⟨x_wpp,f_wpp,l_wpp⟩:=bO z_wpp;obtain ⟨x_wp,f_wp,l_wp⟩:=bO z_wp;obtain ⟨x_w,f_w,l_w⟩:=bO z_w;clear hbw9 bb
  have hoff1:∀ j,w.heap.size≤j→j<w.heap.size+1+1+1+1→y1.ownBlock≠some j:=fun j _ h2=>fY1.off2 d1 h2 (by (try simp) <;> omega);have hoff2:∀ j,w.heap.size≤j→j<w.heap.size+1+1+1+1→y2.ownBlock≠some j:=fun j _ h2=>fY2.off2 d2 h2 (by (try simp) <;> omega);have fr1:Fresh w (.slice none 0 0) y1:=fun j hj=>.inr (fY1.up d1 (by (try simp) <;> omega) (by (try simp) <;> omega) j hj);have fr2:Fresh w (.slice none 0 0) y2:=fun j hj=>.inr (fY2.up d2 (by (try simp) <;> omega) (by (try simp) <;> omega) j hj);obtain ⟨ya,yp,rfl,_⟩:=oY1.seg;obtain ⟨yb,yq,rfl,_⟩:=oY2.seg
  go_wp2
  refine bodyPost_ret (res_cct Tryz.results6 rfl (ldChan x.1 (.slice ya x.1.cells.length yp) (.slice yb x.1.words.length yq) (by simp [go_sem, *])) rfl (ldHand x.2.1 (by simp [go_sem, *]))) rfl ⟨⟨_,_,rfl,?_,?_,fr1,fr2⟩,by exact zB⟩
  · exact zP oY1 oY1 hoff1
  · exact zP oY2 oY2 hoff2
theorem turnC_no {c:Ch} {i f t v:Int} (h:turnCB c i f t v=false):turnC c i f t v=c:=by
  have e:turnX (cellAt c i) f t v=cellAt c i:=by
    have h2:turnB (cellAt c i).s (cellAt c i).e (cellAt c i).t f t v=false:=h
    simp [turnX,turnS,turnW,h2]
  unfold turnC setAt
  rw [e]
  unfold cellAt
  have:c.cells.set i.toNat (c.cells.getD i.toNat ⟨0,0,0⟩)=c.cells:=by
    apply List.ext_getElem?
    intro n
    rw [List.getElem?_set]
    by_cases hn:i.toNat=n
    · subst hn
      by_cases hl:i.toNat<c.cells.length
      · simp [hl]
      · simp [hl,Nat.le_of_not_lt hl]
    · simp [hn]
  rw [this]
theorem fin_ok (c:Ch) (h:Ha):fin6 (c,h,true)=done c h:=rfl
theorem fin_put (c:Ch) (h:Ha) (hs:h.seen=0∨h.seen=1∨(h.seen≠0∧h.seen≠1)):fin6 (putS c h)=put6 c h:=by
  have K:fin6 (keep6 c h)=if turnCB c h.cell h.seen 2 0 then done (turnC c h.cell h.seen 2 0) (resting 1 0) else done (turnC c h.cell h.seen 2 0) { h with pos:=3 }:=by
    unfold keep6
    cases ht:turnCB c h.cell h.seen 2 0 with
    | true=>simp [fin_ok]
    | false=>simp [fin_ok,turnC_no ht]
  have Wt:fin6 (wt6 c h)=done (wait6 c h 3 23 3).1 (wait6 c h 3 23 3).2:=by
    unfold wt6 wait6
    by_cases hf:80≤c.words.length
    · simp [hf,fin_ok]
    · cases ht:turnCB c h.cell h.seen 3 (c.words.length+1) with
      | true=>simp [hf,fin_ok]
      | false=>simp [hf,fin_ok,turnC_no ht]
  unfold putS put6
  rcases hs with h0|h0|⟨h0,h1⟩
  · have e0:(h.seen == 1)=false:=by simp [h0]
    have e1:(h.seen == 0)=true:=by simp [h0]
    have e2:(h.seen != 0 && h.seen != 1)=false:=by simp [h0]
    rw [e2]
    by_cases hx:h.cell<(if h.come<h.fin then h.fin else h.come)
    · have hk:putK h=true:=by simp [putK,e1,hx]
      have hn:(h.seen == 0 && (decide (h.come≤h.cell) && decide (h.fin≤h.cell)))=false:=by
        rw [e1]
        simp
        split at hx <;> omega
      rw [hk,hn]
      simpa using K
    · have hk:putK h=false:=by simp [putK,e0,hx]
      have hn:(h.seen == 0 && (decide (h.come≤h.cell) && decide (h.fin≤h.cell)))=true:=by
        rw [e1]
        simp
        split at hx <;> omega
      rw [hk,hn,e1]
      simpa using Wt
  · have e1:(h.seen == 0)=false:=by simp [h0]
    have e2:(h.seen != 0 && h.seen != 1)=false:=by simp [h0]
    have hk:putK h=true:=by simp [putK,h0]
    rw [hk,e2,e1]
    simpa using K
  · have e0:(h.seen == 1)=false:=by simpa using h1
    have e1:(h.seen == 0)=false:=by simpa using h0
    have e2:(h.seen != 0 && h.seen != 1)=true:=by simp [h0,h1]
    have hk:putK h=false:=by simp [putK,e0,e1]
    rw [hk,e2,e1]
    rfl
set_option maxRecDepth 100000 in
set_option maxHeartbeats 2000000 in
theorem sendLook_no (c:Ch) (h:Ha) (v1 v2:Value) (lo:Nat) (w:World) (h1:OCells w lo v1 c.cells) (h2:OInts w lo v2 c.words) (hc0:0≤h.cell) (hc1:h.cell<c.cells.length) (n0:((cellAt c h.cell).s == 0)=false) (n1:((cellAt c h.cell).s == 1)=false) (n4:((cellAt c h.cell).s == 4)=false) (n8:((cellAt c h.cell).s == 8)=false) (n10:((cellAt c h.cell).s == 10)=false) :
    Calls Tryz.prog 45 #[.agg (cvals c v1 v2),.agg (hvals h)] w fun r w'=>StepO w w' lo v1 v2 (nothing) r:=by
  have b1:=fun j (hj:v1.ownBlock=some j)=>(h1.lt j hj).2
  have b2:=fun j (hj:v2.ownBlock=some j)=>(h2.lt j hj).2
  have T:=Lib.hid fun W=>refused_any W lo v1 v2
  obtain ⟨i,hci⟩:∃ i:Nat,h.cell=(i:Int):=⟨h.cell.toNat,by omega⟩
  have hi:i<c.cells.length:=by omega
  have hi0:(0:Int)≤(i:Int):=by omega
  have hi1:(i:Int)<(c.cells.length:Int):=by omega
  have hne:=h1.ne h2
  obtain ⟨a2,q2,rfl,_⟩:=h2.seg
  obtain ⟨g,q1,rfl,hlo1,hlt,hcell,hfr⟩:=h1.open1 hi
  have O1:=Lib.hid h1
  have O2:=Lib.hid h2
  have m1:∀ j,w.heap.size≤j→some j≠(Value.slice (some ⟨g,0,none⟩) c.cells.length q1).ownBlock:=fun j hj e=>by have:=b1 _ e.symm;omega
  have m2:∀ j,w.heap.size≤j→some j≠(Value.slice a2 c.words.length q2).ownBlock:=fun j hj e=>by have:=b2 _ e.symm;omega
  have m10:=m1 (w.heap.size) (by omega)
  have m11:=m1 (w.heap.size+1) (by omega)
  have m12:=m1 (w.heap.size+1+1) (by omega)
  have m13:=m1 (w.heap.size+1+1+1) (by omega)
  have m20:=m2 (w.heap.size) (by omega)
  have m21:=m2 (w.heap.size+1) (by omega)
  have m22:=m2 (w.heap.size+1+1) (by omega)
  have m23:=m2 (w.heap.size+1+1+1) (by omega)
  have lg0:g<w.heap.size+1:=by omega
  have lg1:g<w.heap.size+1+1:=by omega
  have lg2:g<w.heap.size+1+1+1:=by omega
  have ng0:g≠w.heap.size:=by omega
  have ng1:g≠w.heap.size+1:=by omega
  have ng2:g≠w.heap.size+1+1:=by omega
  have ng3:g≠w.heap.size+1+1+1:=by omega
  have mg0:w.heap.size≠g:=by omega
  have mg1:w.heap.size+1≠g:=by omega
  have mg2:w.heap.size+1+1≠g:=by omega
  have mg3:w.heap.size+1+1+1≠g:=by omega
  have hx:Hid (cellAt c h.cell=c.cells.getD i ⟨0,0,0⟩):=by simp [cellAt,Hid,hci]
  have c0:=hcell 0 (by omega)
  have c1:=hcell 1 (by omega)
  have c2:=hcell 2 (by omega)
  simp only [C3.val,Nat.add_zero] at c0 c1 c2
  have ex:=hx.out
  rw [ex] at n0 n1 n4 n8 n10
  generalize c.cells.getD i ⟨0,0,0⟩=x0 at *
  obtain ⟨s,e,t⟩:=x0
  simp only at n0 n1 n4 n8 n10 c0 c1 c2
  generalize nothing=x at *
  clear hcell hx h1 h2 hc0 hc1 ex
  have o1:=O1.out
  have o2:=O2.out
  go_enter Tryz.func45,Tryz.ntmps45
  go_wp2_with fail
  go_region_held3 (fun w'=>w'.cell? ⟨w.heap.size,4,none⟩=some (.slice (some ⟨g,0,none⟩) c.cells.length q1)∧w'.cell? ⟨w.heap.size+1,3,none⟩=some (.int .i64 i)∧w'.cell? ⟨g,i*3,none⟩=some (.int .i64 s)∧w'.cell? ⟨g,i*3+2,none⟩=some (.int .i64 t))
    (first|(simp [*,go_sem]))
    (first|fail)
  go_wp2_with fail
  refine (T.out _).mono ?_
  rintro _ w3 ⟨⟨y1,y2,rfl,oY1,oY2,fY1,fY2⟩,hbw3⟩
  have hO3:Onl (Value.slice (some ⟨g,0,none⟩) c.cells.length q1).ownBlock (Value.slice a2 c.words.length q2).ownBlock w w3:=onlT (onlB (by exact zB)) (onlB hbw3)
  have hsw3:=hbw3.size;(try simp at hsw3);have zz:=q4 hbw3 (b:=w.heap.size);(try simp [go_sem] at zz);(try clear z_wppp x_wppp f_wppp l_wppp);(try clear z_wpp x_wpp f_wpp l_wpp);(try clear z_wp x_wp f_wp l_wp);(try clear z_w x_w f_w l_w);obtain ⟨z_wppp,z_wpp,z_wp,z_w⟩:=zz;obtain ⟨x_wppp,f_wppp,l_wppp⟩:=bO z_wppp;obtain ⟨x_wpp,f_wpp,l_wpp⟩:=bO z_wpp;obtain ⟨x_wp,f_wp,l_wp⟩:=bO z_wp;obtain ⟨x_w,f_w,l_w⟩:=bO z_w;clear hbw3
  have hoff1:∀ j,w.heap.size≤j→j<w.heap.size+1+1+1+1→y1.ownBlock≠some j:=fun j h1 h2=>fY1.off b1 h1 (by (try simp) <;> omega);have hoff2:∀ j,w.heap.size≤j→j<w.heap.size+1+1+1+1→y2.ownBlock≠some j:=fun j h1 h2=>fY2.off b2 h1 (by (try simp) <;> omega);have fr1:Fresh w _ y1:=fun j hj=>(fY1 j hj).imp id (fun h=>Nat.le_trans (by (try simp) <;> omega) h);have fr2:Fresh w _ y2:=fun j hj=>(fY2 j hj).imp id (fun h=>Nat.le_trans (by (try simp) <;> omega) h);obtain ⟨ya,yp,rfl,_⟩:=oY1.seg;obtain ⟨yb,yq,rfl,_⟩:=oY2.seg
  go_wp2
  refine bodyPost_ret (res_cct Tryz.results45 rfl (ldChan x.1 (.slice ya x.1.cells.length yp) (.slice yb x.1.words.length yq) (by simp [go_sem, *])) rfl (ldHand x.2.1 (by simp [go_sem, *]))) rfl ⟨⟨_,_,rfl,?_,?_,fr1,fr2⟩,by (repeat (first|with_reducible assumption|with_reducible refine oA ?_|with_reducible refine oD ?_|((with_reducible refine oX ?_ ?_);rotate_left;(focus ((try dsimp only);(try simp);(try omega))))|((with_reducible refine oS ?_ ?_);rotate_left;(focus ((try dsimp only);(try simp);(try omega))))))⟩
  · exact zP oY1 oY1 hoff1
  · exact zP oY2 oY2 hoff2
theorem sendStepI_any (c:Ch) (h:Ha) (a b:Option Addr) (p q:Nat) (w:World) (h1:Seg w w.heap.size a c.cells.length 3 (cellF c.cells)) (z1:a=none→p=0) (h2:Seg w w.heap.size b c.words.length 1 (intF c.words)) (z2:b=none→q=0) (l1:c.cells.length≤maxLen) (l2:c.words.length≤maxLen) :
    Calls Tryz.prog 6 #[.agg (cvals c (.slice a c.cells.length p) (.slice b c.words.length q)),.agg (hvals h)] w fun r w'=>StepN w w' (sendStep c h) r:=by
  cases hc:chanOk c with
  | false =>
    rw [show sendStep c h=nothing by simp [sendStep,stepOk,hc]]
    exact sNo_1 c h a b p q w h1 z1 h2 z2 l1 l2 hc
  | true =>
    cases hh:handOk h with
    | false =>
      rw [show sendStep c h=nothing by simp [sendStep,stepOk,hh]]
      exact sNo_2 c h a b p q w h1 z1 h2 z2 l1 l2 hc hh
    | true =>
      cases hk:(h.code != 1) with
      | true =>
        have hk2:¬ h.code=1:=by simpa using hk
        rw [show sendStep c h=nothing by simp [sendStep,stepOk,hk2]]
        exact sNo_3 c h a b p q w h1 z1 h2 z2 l1 l2 hc hh hk
      | false =>
        have hk1:h.code=1:=by simpa using hk
        have hr:0≤h.pos∧h.pos≠0∧callOk h.code h.elem=true:=by
          have:=hh
          simp only [handOk,handA,Bool.and_eq_true,inB_iff] at this
          by_cases h0:h.pos=0
          · simp [h0,noCall,hk1] at this
          · simp [h0] at this
            exact ⟨this.1.1.1,h0,this.1.2⟩
        obtain ⟨hr0,hr1,hcall⟩:=hr
        obtain ⟨hc0,hc9⟩:=hand_cell hh
        have hc1:h.cell<c.cells.length:=by have:=(chan_len hc).1;omega
        by_cases hp9:9≤h.pos
        · have hno:stepOk c h 1 8 1=false:=by
            have:inB h.pos 1 8=false:=by simp [inB];omega
            simp [stepOk,this]
          rw [show sendStep c h=nothing by simp [sendStep,hno]]
          exact sNo_4 c h a b p q w h1 z1 h2 z2 l1 l2 hc hh hk hp9
        have hok:stepOk c h 1 8 1=true:=by
          have:inB h.pos 1 8=true:=by simp [inB];omega
          simp [stepOk,hc,hh,this,hk1]
        have hps:h.pos=1∨h.pos=2∨h.pos=3∨h.pos=4∨h.pos=5∨h.pos=6∨h.pos=7∨h.pos=8:=by omega
        rcases hps with hp|hp|hp|hp|hp|hp|hp|hp
        · by_cases hs:c.sent=40
          · skip
            rw [show sendStep c h=fin6 (c,resting 4 0,true) by simp [sendStep,hok,hp,send1,hs,fin_ok]]
            exact sendStep_via 43 1 (c,resting 4 0,true) c h a b p q w h1 z1 h2 z2 hc hh hk1 hp (by omega) rfl (fun args w=>by simp [go_sem]) (fun v1 v2 lo W o1 o2 hl=>sendNumber_a c h v1 v2 lo W o1 o2 hs)
          · skip
            rw [show sendStep c h=fin6 ({ c with sent:=c.sent+1 },{ h with cell:=c.sent,pos:=2 },true) by simp [sendStep,hok,hp,send1,hs,fin_ok]]
            exact sendStep_via 43 1 ({ c with sent:=c.sent+1 },{ h with cell:=c.sent,pos:=2 },true) c h a b p q w h1 z1 h2 z2 hc hh hk1 hp (by omega) rfl (fun args w=>by simp [go_sem]) (fun v1 v2 lo W o1 o2 hl=>sendNumber_b c h v1 v2 lo W o1 o2 hs (chan_sent hc))
        · skip
          rw [show sendStep c h=fin6 (layC c h.cell h.elem,{ h with pos:=3 },true) by simp [sendStep,hok,hp,send2,fin_ok]]
          exact sendStep_via 44 2 (layC c h.cell h.elem,{ h with pos:=3 },true) c h a b p q w h1 z1 h2 z2 hc hh hk1 hp (by omega) rfl (fun args w=>by simp [go_sem]) (fun v1 v2 lo W o1 o2 hl=>sendLay_any c h v1 v2 lo W o1 o2 hc0 hc1)
        · have el:sendStep c h=fin6 (lk6 c h):=by
            simp only [sendStep,hok,hp,send3]
            cases hl:(look6 c h).2 <;> simp [lk6,hl,fin6,nothing]
          rw [el]
          by_cases hn:(cellAt c h.cell).s=0∨(cellAt c h.cell).s=1∨(cellAt c h.cell).s=4∨(cellAt c h.cell).s=8∨(cellAt c h.cell).s=10
          · refine sendStep_via 45 3 (lk6 c h) c h a b p q w h1 z1 h2 z2 hc hh hk1 hp (by omega) rfl (fun args w=>by simp [go_sem]) (fun v1 v2 lo W o1 o2 hl=>?_)
            rcases hn with hn|hn|hn|hn|hn
            · exact sendLook_0 c h v1 v2 lo W o1 o2 hc0 hc1 hn
            · exact sendLook_1 c h v1 v2 lo W o1 o2 hc0 hc1 hn
            · exact sendLook_4 c h v1 v2 lo W o1 o2 hc0 hc1 hn
            · exact sendLook_8 c h v1 v2 lo W o1 o2 hc0 hc1 hn hcall
            · exact sendLook_10 c h v1 v2 lo W o1 o2 hc0 hc1 hn hcall
          · have n0:((cellAt c h.cell).s == 0)=false:=by simp;omega
            have n1:((cellAt c h.cell).s == 1)=false:=by simp;omega
            have n4:((cellAt c h.cell).s == 4)=false:=by simp;omega
            have n8:((cellAt c h.cell).s == 8)=false:=by simp;omega
            have n10:((cellAt c h.cell).s == 10)=false:=by simp;omega
            have eno:lk6 c h=nothing:=by
              simp only [lk6,look6_at rfl (cellAt c h.cell).s rfl,n0,n1,n4,n8,n10]
              rfl
            rw [eno]
            exact sendStep_via 45 3 nothing c h a b p q w h1 z1 h2 z2 hc hh hk1 hp (by omega) rfl (fun args w=>by simp [go_sem]) (fun v1 v2 lo W o1 o2 hl=>sendLook_no c h v1 v2 lo W o1 o2 hc0 hc1 n0 n1 n4 n8 n10)
        · skip
          rw [show sendStep c h=fin6 (c,{ h with fin:=c.fin,pos:=5 },true) by simp [sendStep,hok,hp,fin_ok]]
          exact sendStep_via 46 4 (c,{ h with fin:=c.fin,pos:=5 },true) c h a b p q w h1 z1 h2 z2 hc hh hk1 hp (by omega) rfl (fun args w=>by simp [go_sem]) (fun v1 v2 lo W o1 o2 hl=>sendEnd_any c h v1 v2 lo W o1 o2)
        · skip
          rw [show sendStep c h=fin6 (c,{ h with come:=c.got,pos:=6 },true) by simp [sendStep,hok,hp,fin_ok]]
          exact sendStep_via 47 5 (c,{ h with come:=c.got,pos:=6 },true) c h a b p q w h1 z1 h2 z2 hc hh hk1 hp (by omega) rfl (fun args w=>by simp [go_sem]) (fun v1 v2 lo W o1 o2 hl=>sendCome_any c h v1 v2 lo W o1 o2)
        · skip
          rw [show sendStep c h=fin6 (putS c h) by rw [fin_put c h (by omega)];simp [sendStep,hok,hp]]
          exact sendStep_via 48 6 (putS c h) c h a b p q w h1 z1 h2 z2 hc hh hk1 hp (by omega) rfl (fun args w=>by simp [go_sem]) (fun v1 v2 lo W o1 o2 hl=>sendPut_any c h v1 v2 lo W o1 o2 hc0 hc1 hc hl)
        · cases ht:tellB c h.wait 1 with
          | true =>
            rw [show sendStep c h=fin6 (tellC c h.wait 1,{ h with pos:=8 },true) by simp [sendStep,hok,hp,call6,ht,fin_ok]]
            exact sendStep_via 49 7 (tellC c h.wait 1,{ h with pos:=8 },true) c h a b p q w h1 z1 h2 z2 hc hh hk1 hp (by omega) rfl (fun args w=>by simp [go_sem]) (fun v1 v2 lo W o1 o2 hl=>sendCall_a c h v1 v2 lo W o1 o2 hc hl ht)
          | false =>
            rw [show sendStep c h=fin6 (c,anew h,true) by simp [sendStep,hok,hp,call6,ht,fin_ok,tellC_no ht]]
            exact sendStep_via 49 7 (c,anew h,true) c h a b p q w h1 z1 h2 z2 hc hh hk1 hp (by omega) rfl (fun args w=>by simp [go_sem]) (fun v1 v2 lo W o1 o2 hl=>sendCall_b c h v1 v2 lo W o1 o2 hc hl hcall ht)
        · skip
          rw [show sendStep c h=fin6 (stateC c h.cell 7,resting 1 0,true) by simp [sendStep,hok,hp,fin_ok]]
          exact sendStep_via 50 8 (stateC c h.cell 7,resting 1 0,true) c h a b p q w h1 z1 h2 z2 hc hh hk1 hp (by omega) rfl (fun args w=>by simp [go_sem]) (fun v1 v2 lo W o1 o2 hl=>sendDone_any c h v1 v2 lo W o1 o2 hc0 hc1)
end Go.Proofs.YthdjlpkcmhajlaaGreat
set_option linter.unusedSimpArgs false
set_option linter.unusedVariables false
namespace Go.Proofs.YthdjlpkcmhajlaaGreat
open Go.RowKit
set_option linter.unusedSimpArgs false
attribute [local simp] bx_size
attribute [local go_sem ↓] zeroHand zeroChan toLHand toLChan toVHand toVChan storeHand storeChan storeHandC storeChanC
attribute [local go_sem ↓] eqHandV
theorem wLike_any (c:Ch) (a b a' b':Option Addr) (p q p' q':Nat) (w:World) (h1:Seg w w.heap.size a c.cells.length 3 (cellF c.cells)) (h2:Seg w w.heap.size b c.words.length 1 (intF c.words)) (h3:Seg w w.heap.size a' c.cells.length 3 (cellF c.cells)) (h4:Seg w w.heap.size b' c.words.length 1 (intF c.words)) (m1:c.cells.length≤maxLen) (m2:c.words.length≤maxLen) :
    Calls Tryz.prog 8 #[.agg (cvals c (.slice a c.cells.length p) (.slice b c.words.length q)),.agg (cvals c (.slice a' c.cells.length p') (.slice b' c.words.length q'))] w fun r w'=>r=.returned (.bool true)∧Below w.heap.size w w':=likeChan_any c a b a' b' p q p' q' w h1 h2 h3 h4 m1 m2
set_option maxRecDepth 100000 in
set_option maxHeartbeats 8000000 in
theorem fnSends_any (n cap:Nat) (a:Option Addr) (bs:Nat→Int) (w:World) (hbs:∀ j,0≤bs j∧bs j≤255) (h:Seg w w.heap.size a n 1 (fun j _=>.int .u8 (bs j))) :
    Calls Tryz.prog 3 #[.slice a n cap] w fun r w'=>r=.returned (.bool true)∧Below w.heap.size w w':=by
  have HB:=Lib.hid hbs
  have HS:=Lib.hid h
  clear hbs h
  by_cases hn:(4096:Int)<(n:Int)
  · go_enter Tryz.func3,Tryz.ntmps3
    go_wp2_with fail
    refine (big_any _ _ _ _).mono ?_
    rintro _ _ ⟨rfl,rfl⟩
    go_wp2
    go_ret
    exact ⟨rfl,Below.refl _ _⟩
  · have HC:Hid (Code w w.heap.size a n bs):=⟨by omega,HB.out,HS.out⟩
    clear HB HS
    go_enter Tryz.func3,Tryz.ntmps3
    go_wp2_with fail
    refine (big_any _ _ _ _).mono ?_
    rintro _ _ ⟨rfl,rfl⟩
    go_wp2_with fail
    refine (drawSendStep_any n cap a bs _ HC.out).mono ?_
    rintro _ w1 ⟨⟨c,hh,v1,v2,rfl,o1,o2,hl1,hl2⟩,hbw1⟩
    have hBw1:Below w.heap.size w w1:=bT (by exact zB) hbw1
    have hsw1:=hbw1.size
    obtain ⟨e1,p1,rfl,G1⟩:=o1.seg
    obtain ⟨e2,p2,rfl,G2⟩:=o2.seg
    have Z1:=Lib.hid (own_zcap o1)
    have Z2:=Lib.hid (own_zcap o2)
    have S1:=Lib.hid G1
    have S2:=Lib.hid G2
    clear o1 o2 G1 G2
    have l1:c.cells.length≤maxLen:=by unfold maxLen;omega
    have l2:c.words.length≤maxLen:=by unfold maxLen;omega
    have q1:c.cells.length≤1048576:=by omega
    have q2:c.words.length≤1048576:=by omega
    have KT:=Lib.hid (touch_send c hh)
    have PI:=Lib.hid fun a b p q W x1 x2 x3 x4=>sendStepI_any c hh a b p q W x1 x2 x3 x4 l1 l2
    have PS:=Lib.hid fun a b p q W x1 x2 x3 x4=>sSendStep_any c hh a b p q W x1 x2 x3 x4
    generalize sendStep c hh=x at *
    obtain ⟨c2,h2,ok⟩:=x
    clear hl1 hl2 hn
    go_wp2_with fail
    refine (PI.out _ _ _ _ _ (((S1).out.below (by exact zB)).more (by (try simp) <;> omega)) Z1.out (((S2).out.below (by exact zB)).more (by (try simp) <;> omega)) Z2.out).mono ?_
    rintro _ w2 ⟨⟨y1,y2,rfl,oY1,oY2,_,_⟩,hbw2⟩
    have hBw2:Below w.heap.size w w2:=bT (by exact zB) hbw2
    have hsw2:=hbw2.size;(try (simp at hsw2));have zz:=hQ hbw2 (b:=w1.heap.size);(first|(simp [go_sem,z_w1,l_w1] at zz)|(simp [go_sem] at zz));(try clear x_w1 f_w1);(try clear z_w1);have z_w1:=zz;clear zz;(try clear l_w1);obtain ⟨x_w1,f_w1,l_w1⟩:=bO z_w1;have zz:=hQ hbw2 (b:=w1.heap.size+1);(first|(simp [go_sem,z_w1p,l_w1p] at zz)|(simp [go_sem] at zz));(try clear x_w1p f_w1p);(try clear z_w1p);have z_w1p:=zz;clear zz;(try clear l_w1p);obtain ⟨x_w1p,f_w1p,l_w1p⟩:=bO z_w1p
    have kw1w2:w1.heap.size<w2.heap.size:=by omega
    have jw1w2:w1.heap.size<w2.heap.size+1:=by omega
    have kw1pw2:w1.heap.size+1<w2.heap.size:=by omega
    have jw1pw2:w1.heap.size+1<w2.heap.size+1:=by omega
    obtain ⟨ya,yp,rfl,GY1⟩:=oY1.seg
    obtain ⟨yb,yq,rfl,GY2⟩:=oY2.seg
    have M1:=own_max oY1
    have M2:=own_max oY2
    have SY1:=Lib.hid GY1
    have SY2:=Lib.hid GY2
    clear oY1 oY2 GY1 GY2
    have hK2:Below w1.heap.size w1 w2:=bT (by exact zB) hbw2
    clear hbw2
    go_wp2_with fail
    refine (PS.out _ _ _ _ _ (((S1).out.below (by exact zB)).more (by (try simp) <;> omega)) Z1.out (((S2).out.below (by exact zB)).more (by (try simp) <;> omega)) Z2.out).mono ?_
    rintro _ w3 ⟨⟨u1,u2,rfl,oU1,oU2,_,_⟩,hbw3⟩
    have hBw3:Below w.heap.size w w3:=bT (by exact zB) hbw3
    have hsw3:=hbw3.size;(try (simp at hsw3));have zz:=hQ hbw3 (b:=w1.heap.size);(first|(simp [go_sem,z_w1,l_w1,kw1w2,jw1w2,kw1pw2,jw1pw2] at zz)|(simp [go_sem,kw1w2,jw1w2,kw1pw2,jw1pw2] at zz));(try clear x_w1 f_w1);(try clear z_w1);have z_w1:=zz;clear zz;(try clear l_w1);obtain ⟨x_w1,f_w1,l_w1⟩:=bO z_w1;have zz:=hQ hbw3 (b:=w1.heap.size+1);(first|(simp [go_sem,z_w1p,l_w1p,kw1w2,jw1w2,kw1pw2,jw1pw2] at zz)|(simp [go_sem,kw1w2,jw1w2,kw1pw2,jw1pw2] at zz));(try clear x_w1p f_w1p);(try clear z_w1p);have z_w1p:=zz;clear zz;(try clear l_w1p);obtain ⟨x_w1p,f_w1p,l_w1p⟩:=bO z_w1p;have zz:=hQ hbw3 (b:=w2.heap.size);(first|(simp [go_sem,z_w2,l_w2,kw1w2,jw1w2,kw1pw2,jw1pw2] at zz)|(simp [go_sem,kw1w2,jw1w2,kw1pw2,jw1pw2] at zz));(try clear x_w2 f_w2);(try clear z_w2);have z_w2:=zz;clear zz;(try clear l_w2);obtain ⟨x_w2,f_w2,l_w2⟩:=bO z_w2;have zz:=hQ hbw3 (b:=w2.heap.size+1);(first|(simp [go_sem,z_w2p,l_w2p,kw1w2,jw1w2,kw1pw2,jw1pw2] at zz)|(simp [go_sem,kw1w2,jw1w2,kw1pw2,jw1pw2] at zz));(try clear x_w2p f_w2p);(try clear z_w2p);have z_w2p:=zz;clear zz;(try clear l_w2p);obtain ⟨x_w2p,f_w2p,l_w2p⟩:=bO z_w2p
    have kw1w3:w1.heap.size<w3.heap.size:=by omega
    have jw1w3:w1.heap.size<w3.heap.size+1:=by omega
    have kw1pw3:w1.heap.size+1<w3.heap.size:=by omega
    have jw1pw3:w1.heap.size+1<w3.heap.size+1:=by omega
    have kw2w3:w2.heap.size<w3.heap.size:=by omega
    have jw2w3:w2.heap.size<w3.heap.size+1:=by omega
    have kw2pw3:w2.heap.size+1<w3.heap.size:=by omega
    have jw2pw3:w2.heap.size+1<w3.heap.size+1:=by omega
    obtain ⟨ua,up,rfl,GU1⟩:=oU1.seg
    obtain ⟨ub,uq,rfl,GU2⟩:=oU2.seg
    have SU1:=Lib.hid GU1
    have SU2:=Lib.hid GU2
    clear oU1 oU2 GU1 GU2
    have hK3:Below w1.heap.size w1 w3:=bT (by exact zB) hbw3
    have hJ3:Below w2.heap.size w2 w3:=bT (by exact zB) hbw3
    clear hbw3
    go_wp2_with fail
    refine (wLike_any c2 ya yb ua ub yp yq up uq _ (((SY1).out.below (by exact zB)).more (by (try simp) <;> omega)) (((SY2).out.below (by exact zB)).more (by (try simp) <;> omega)) (((SU1).out.below (by exact zB)).more (by (try simp) <;> omega)) (((SU2).out.below (by exact zB)).more (by (try simp) <;> omega)) M1 M2).mono ?_
    rintro _ w4 ⟨rfl,hbw4⟩
    have hBw4:Below w.heap.size w w4:=bT (by exact zB) hbw4
    have hsw4:=hbw4.size;(try (simp at hsw4));have zz:=hQ hbw4 (b:=w1.heap.size);(first|(simp [go_sem,z_w1,l_w1,kw1w3,jw1w3,kw1pw3,jw1pw3,kw2w3,jw2w3,kw2pw3,jw2pw3] at zz)|(simp [go_sem,kw1w3,jw1w3,kw1pw3,jw1pw3,kw2w3,jw2w3,kw2pw3,jw2pw3] at zz));(try clear x_w1 f_w1);(try clear z_w1);have z_w1:=zz;clear zz;(try clear l_w1);obtain ⟨x_w1,f_w1,l_w1⟩:=bO z_w1;have zz:=hQ hbw4 (b:=w1.heap.size+1);(first|(simp [go_sem,z_w1p,l_w1p,kw1w3,jw1w3,kw1pw3,jw1pw3,kw2w3,jw2w3,kw2pw3,jw2pw3] at zz)|(simp [go_sem,kw1w3,jw1w3,kw1pw3,jw1pw3,kw2w3,jw2w3,kw2pw3,jw2pw3] at zz));(try clear x_w1p f_w1p);(try clear z_w1p);have z_w1p:=zz;clear zz;(try clear l_w1p);obtain ⟨x_w1p,f_w1p,l_w1p⟩:=bO z_w1p;have zz:=hQ hbw4 (b:=w2.heap.size);(first|(simp [go_sem,z_w2,l_w2,kw1w3,jw1w3,kw1pw3,jw1pw3,kw2w3,jw2w3,kw2pw3,jw2pw3] at zz)|(simp [go_sem,kw1w3,jw1w3,kw1pw3,jw1pw3,kw2w3,jw2w3,kw2pw3,jw2pw3] at zz));(try clear x_w2 f_w2);(try clear z_w2);have z_w2:=zz;clear zz;(try clear l_w2);obtain ⟨x_w2,f_w2,l_w2⟩:=bO z_w2;have zz:=hQ hbw4 (b:=w2.heap.size+1);(first|(simp [go_sem,z_w2p,l_w2p,kw1w3,jw1w3,kw1pw3,jw1pw3,kw2w3,jw2w3,kw2pw3,jw2pw3] at zz)|(simp [go_sem,kw1w3,jw1w3,kw1pw3,jw1pw3,kw2w3,jw2w3,kw2pw3,jw2pw3] at zz));(try clear x_w2p f_w2p);(try clear z_w2p);have z_w2p:=zz;clear zz;(try clear l_w2p);obtain ⟨x_w2p,f_w2p,l_w2p⟩:=bO z_w2p;have zz:=hQ hbw4 (b:=w3.heap.size);(first|(simp [go_sem,z_w3,l_w3,kw1w3,jw1w3,kw1pw3,jw1pw3,kw2w3,jw2w3,kw2pw3,jw2pw3] at zz)|(simp [go_sem,kw1w3,jw1w3,kw1pw3,jw1pw3,kw2w3,jw2w3,kw2pw3,jw2pw3] at zz));(try clear x_w3 f_w3);(try clear z_w3);have z_w3:=zz;clear zz;(try clear l_w3);obtain ⟨x_w3,f_w3,l_w3⟩:=bO z_w3;have zz:=hQ hbw4 (b:=w3.heap.size+1);(first|(simp [go_sem,z_w3p,l_w3p,kw1w3,jw1w3,kw1pw3,jw1pw3,kw2w3,jw2w3,kw2pw3,jw2pw3] at zz)|(simp [go_sem,kw1w3,jw1w3,kw1pw3,jw1pw3,kw2w3,jw2w3,kw2pw3,jw2pw3] at zz));(try clear x_w3p f_w3p);(try clear z_w3p);have z_w3p:=zz;clear zz;(try clear l_w3p);obtain ⟨x_w3p,f_w3p,l_w3p⟩:=bO z_w3p
    have kw1w4:w1.heap.size<w4.heap.size:=by omega
    have jw1w4:w1.heap.size<w4.heap.size+1:=by omega
    have kw1pw4:w1.heap.size+1<w4.heap.size:=by omega
    have jw1pw4:w1.heap.size+1<w4.heap.size+1:=by omega
    have kw2w4:w2.heap.size<w4.heap.size:=by omega
    have jw2w4:w2.heap.size<w4.heap.size+1:=by omega
    have kw2pw4:w2.heap.size+1<w4.heap.size:=by omega
    have jw2pw4:w2.heap.size+1<w4.heap.size+1:=by omega
    have kw3w4:w3.heap.size<w4.heap.size:=by omega
    have jw3w4:w3.heap.size<w4.heap.size+1:=by omega
    have kw3pw4:w3.heap.size+1<w4.heap.size:=by omega
    have jw3pw4:w3.heap.size+1<w4.heap.size+1:=by omega
    have hK4:Below w1.heap.size w1 w4:=bT (by exact zB) hbw4
    have hJ4:Below w2.heap.size w2 w4:=bT (by exact zB) hbw4
    clear hbw4
    have hE:eqHa h2 h2=true:=eqHa_self h2
    cases ok with
    | false =>
      go_wp2
      go_ret
      exact ⟨rfl,by exact zB⟩
    | true =>
      obtain ⟨k1,k2,k3,_,_⟩:=KT.out rfl
      dsimp only at k1 k2 k3
      have q3:c2.cells.length≤1048576:=by have:=(chan_len k1).1;omega
      have q4:c2.words.length≤1048576:=by have:=(chan_len k1).2;omega
      have k4:((touchedN c c2:Nat):Int)≤1:=by omega
      clear k3
      go_wp2_with fail
      refine (iChanOk_any c2 ya yb yp yq _ (((SY1).out.below (by exact zB)).more (by (try simp) <;> omega)) (((SY2).out.below (by exact zB)).more (by (try simp) <;> omega)) M1 M2).mono ?_
      rintro _ w5 ⟨rfl,hbw5⟩
      have hBw5:Below w.heap.size w w5:=bT (by exact zB) hbw5
      have hsw5:=hbw5.size;(try (simp at hsw5));have zz:=hQ hbw5 (b:=w1.heap.size);(first|(simp [go_sem,z_w1,l_w1,kw1w4,jw1w4,kw1pw4,jw1pw4,kw2w4,jw2w4,kw2pw4,jw2pw4,kw3w4,jw3w4,kw3pw4,jw3pw4] at zz)|(simp [go_sem,kw1w4,jw1w4,kw1pw4,jw1pw4,kw2w4,jw2w4,kw2pw4,jw2pw4,kw3w4,jw3w4,kw3pw4,jw3pw4] at zz));(try clear x_w1 f_w1);(try clear z_w1);have z_w1:=zz;clear zz;(try clear l_w1);obtain ⟨x_w1,f_w1,l_w1⟩:=bO z_w1;have zz:=hQ hbw5 (b:=w1.heap.size+1);(first|(simp [go_sem,z_w1p,l_w1p,kw1w4,jw1w4,kw1pw4,jw1pw4,kw2w4,jw2w4,kw2pw4,jw2pw4,kw3w4,jw3w4,kw3pw4,jw3pw4] at zz)|(simp [go_sem,kw1w4,jw1w4,kw1pw4,jw1pw4,kw2w4,jw2w4,kw2pw4,jw2pw4,kw3w4,jw3w4,kw3pw4,jw3pw4] at zz));(try clear x_w1p f_w1p);(try clear z_w1p);have z_w1p:=zz;clear zz;(try clear l_w1p);obtain ⟨x_w1p,f_w1p,l_w1p⟩:=bO z_w1p;have zz:=hQ hbw5 (b:=w2.heap.size);(first|(simp [go_sem,z_w2,l_w2,kw1w4,jw1w4,kw1pw4,jw1pw4,kw2w4,jw2w4,kw2pw4,jw2pw4,kw3w4,jw3w4,kw3pw4,jw3pw4] at zz)|(simp [go_sem,kw1w4,jw1w4,kw1pw4,jw1pw4,kw2w4,jw2w4,kw2pw4,jw2pw4,kw3w4,jw3w4,kw3pw4,jw3pw4] at zz));(try clear x_w2 f_w2);(try clear z_w2);have z_w2:=zz;clear zz;(try clear l_w2);obtain ⟨x_w2,f_w2,l_w2⟩:=bO z_w2;have zz:=hQ hbw5 (b:=w2.heap.size+1);(first|(simp [go_sem,z_w2p,l_w2p,kw1w4,jw1w4,kw1pw4,jw1pw4,kw2w4,jw2w4,kw2pw4,jw2pw4,kw3w4,jw3w4,kw3pw4,jw3pw4] at zz)|(simp [go_sem,kw1w4,jw1w4,kw1pw4,jw1pw4,kw2w4,jw2w4,kw2pw4,jw2pw4,kw3w4,jw3w4,kw3pw4,jw3pw4] at zz));(try clear x_w2p f_w2p);(try clear z_w2p);have z_w2p:=zz;clear zz;(try clear l_w2p);obtain ⟨x_w2p,f_w2p,l_w2p⟩:=bO z_w2p;have zz:=hQ hbw5 (b:=w3.heap.size);(first|(simp [go_sem,z_w3,l_w3,kw1w4,jw1w4,kw1pw4,jw1pw4,kw2w4,jw2w4,kw2pw4,jw2pw4,kw3w4,jw3w4,kw3pw4,jw3pw4] at zz)|(simp [go_sem,kw1w4,jw1w4,kw1pw4,jw1pw4,kw2w4,jw2w4,kw2pw4,jw2pw4,kw3w4,jw3w4,kw3pw4,jw3pw4] at zz));(try clear x_w3 f_w3);(try clear z_w3);have z_w3:=zz;clear zz;(try clear l_w3);obtain ⟨x_w3,f_w3,l_w3⟩:=bO z_w3;have zz:=hQ hbw5 (b:=w3.heap.size+1);(first|(simp [go_sem,z_w3p,l_w3p,kw1w4,jw1w4,kw1pw4,jw1pw4,kw2w4,jw2w4,kw2pw4,jw2pw4,kw3w4,jw3w4,kw3pw4,jw3pw4] at zz)|(simp [go_sem,kw1w4,jw1w4,kw1pw4,jw1pw4,kw2w4,jw2w4,kw2pw4,jw2pw4,kw3w4,jw3w4,kw3pw4,jw3pw4] at zz));(try clear x_w3p f_w3p);(try clear z_w3p);have z_w3p:=zz;clear zz;(try clear l_w3p);obtain ⟨x_w3p,f_w3p,l_w3p⟩:=bO z_w3p
      have kw1w5:w1.heap.size<w5.heap.size:=by omega
      have jw1w5:w1.heap.size<w5.heap.size+1:=by omega
      have kw1pw5:w1.heap.size+1<w5.heap.size:=by omega
      have jw1pw5:w1.heap.size+1<w5.heap.size+1:=by omega
      have kw2w5:w2.heap.size<w5.heap.size:=by omega
      have jw2w5:w2.heap.size<w5.heap.size+1:=by omega
      have kw2pw5:w2.heap.size+1<w5.heap.size:=by omega
      have jw2pw5:w2.heap.size+1<w5.heap.size+1:=by omega
      have kw3w5:w3.heap.size<w5.heap.size:=by omega
      have jw3w5:w3.heap.size<w5.heap.size+1:=by omega
      have kw3pw5:w3.heap.size+1<w5.heap.size:=by omega
      have jw3pw5:w3.heap.size+1<w5.heap.size+1:=by omega
      have hK5:Below w1.heap.size w1 w5:=bT (by exact zB) hbw5
      have hJ5:Below w2.heap.size w2 w5:=bT (by exact zB) hbw5
      clear hbw5
      rw [k1]
      go_wp2_with fail
      refine (handOk_any h2 _).mono ?_
      rintro _ w6 ⟨rfl,hbw6⟩
      have hBw6:Below w.heap.size w w6:=bT (by exact zB) hbw6
      have hsw6:=hbw6.size;(try (simp at hsw6));have zz:=hQ hbw6 (b:=w1.heap.size);(first|(simp [go_sem,z_w1,l_w1,kw1w5,jw1w5,kw1pw5,jw1pw5,kw2w5,jw2w5,kw2pw5,jw2pw5,kw3w5,jw3w5,kw3pw5,jw3pw5] at zz)|(simp [go_sem,kw1w5,jw1w5,kw1pw5,jw1pw5,kw2w5,jw2w5,kw2pw5,jw2pw5,kw3w5,jw3w5,kw3pw5,jw3pw5] at zz));(try clear x_w1 f_w1);(try clear z_w1);have z_w1:=zz;clear zz;(try clear l_w1);obtain ⟨x_w1,f_w1,l_w1⟩:=bO z_w1;have zz:=hQ hbw6 (b:=w1.heap.size+1);(first|(simp [go_sem,z_w1p,l_w1p,kw1w5,jw1w5,kw1pw5,jw1pw5,kw2w5,jw2w5,kw2pw5,jw2pw5,kw3w5,jw3w5,kw3pw5,jw3pw5] at zz)|(simp [go_sem,kw1w5,jw1w5,kw1pw5,jw1pw5,kw2w5,jw2w5,kw2pw5,jw2pw5,kw3w5,jw3w5,kw3pw5,jw3pw5] at zz));(try clear x_w1p f_w1p);(try clear z_w1p);have z_w1p:=zz;clear zz;(try clear l_w1p);obtain ⟨x_w1p,f_w1p,l_w1p⟩:=bO z_w1p;have zz:=hQ hbw6 (b:=w2.heap.size);(first|(simp [go_sem,z_w2,l_w2,kw1w5,jw1w5,kw1pw5,jw1pw5,kw2w5,jw2w5,kw2pw5,jw2pw5,kw3w5,jw3w5,kw3pw5,jw3pw5] at zz)|(simp [go_sem,kw1w5,jw1w5,kw1pw5,jw1pw5,kw2w5,jw2w5,kw2pw5,jw2pw5,kw3w5,jw3w5,kw3pw5,jw3pw5] at zz));(try clear x_w2 f_w2);(try clear z_w2);have z_w2:=zz;clear zz;(try clear l_w2);obtain ⟨x_w2,f_w2,l_w2⟩:=bO z_w2;have zz:=hQ hbw6 (b:=w2.heap.size+1);(first|(simp [go_sem,z_w2p,l_w2p,kw1w5,jw1w5,kw1pw5,jw1pw5,kw2w5,jw2w5,kw2pw5,jw2pw5,kw3w5,jw3w5,kw3pw5,jw3pw5] at zz)|(simp [go_sem,kw1w5,jw1w5,kw1pw5,jw1pw5,kw2w5,jw2w5,kw2pw5,jw2pw5,kw3w5,jw3w5,kw3pw5,jw3pw5] at zz));(try clear x_w2p f_w2p);(try clear z_w2p);have z_w2p:=zz;clear zz;(try clear l_w2p);obtain ⟨x_w2p,f_w2p,l_w2p⟩:=bO z_w2p;have zz:=hQ hbw6 (b:=w3.heap.size);(first|(simp [go_sem,z_w3,l_w3,kw1w5,jw1w5,kw1pw5,jw1pw5,kw2w5,jw2w5,kw2pw5,jw2pw5,kw3w5,jw3w5,kw3pw5,jw3pw5] at zz)|(simp [go_sem,kw1w5,jw1w5,kw1pw5,jw1pw5,kw2w5,jw2w5,kw2pw5,jw2pw5,kw3w5,jw3w5,kw3pw5,jw3pw5] at zz));(try clear x_w3 f_w3);(try clear z_w3);have z_w3:=zz;clear zz;(try clear l_w3);obtain ⟨x_w3,f_w3,l_w3⟩:=bO z_w3;have zz:=hQ hbw6 (b:=w3.heap.size+1);(first|(simp [go_sem,z_w3p,l_w3p,kw1w5,jw1w5,kw1pw5,jw1pw5,kw2w5,jw2w5,kw2pw5,jw2pw5,kw3w5,jw3w5,kw3pw5,jw3pw5] at zz)|(simp [go_sem,kw1w5,jw1w5,kw1pw5,jw1pw5,kw2w5,jw2w5,kw2pw5,jw2pw5,kw3w5,jw3w5,kw3pw5,jw3pw5] at zz));(try clear x_w3p f_w3p);(try clear z_w3p);have z_w3p:=zz;clear zz;(try clear l_w3p);obtain ⟨x_w3p,f_w3p,l_w3p⟩:=bO z_w3p
      have kw1w6:w1.heap.size<w6.heap.size:=by omega
      have jw1w6:w1.heap.size<w6.heap.size+1:=by omega
      have kw1pw6:w1.heap.size+1<w6.heap.size:=by omega
      have jw1pw6:w1.heap.size+1<w6.heap.size+1:=by omega
      have kw2w6:w2.heap.size<w6.heap.size:=by omega
      have jw2w6:w2.heap.size<w6.heap.size+1:=by omega
      have kw2pw6:w2.heap.size+1<w6.heap.size:=by omega
      have jw2pw6:w2.heap.size+1<w6.heap.size+1:=by omega
      have kw3w6:w3.heap.size<w6.heap.size:=by omega
      have jw3w6:w3.heap.size<w6.heap.size+1:=by omega
      have kw3pw6:w3.heap.size+1<w6.heap.size:=by omega
      have jw3pw6:w3.heap.size+1<w6.heap.size+1:=by omega
      have hK6:Below w1.heap.size w1 w6:=bT (by exact zB) hbw6
      have hJ6:Below w2.heap.size w2 w6:=bT (by exact zB) hbw6
      clear hbw6
      rw [k2]
      go_wp2_with fail
      refine (touched_any c c2 e1 e2 ya yb p1 p2 yp yq _ (((S1).out.below (by exact zB)).more (by (try simp) <;> omega)) (((S2).out.below (by exact zB)).more (by (try simp) <;> omega)) (((SY1).out.below (by exact zB)).more (by (try simp) <;> omega)) (((SY2).out.below (by exact zB)).more (by (try simp) <;> omega)) q1 q2 q3 q4).mono ?_
      rintro _ w7 ⟨rfl,hbw7⟩
      have hBw7:Below w.heap.size w w7:=bT (by exact zB) hbw7
      have hsw7:=hbw7.size;(try (simp at hsw7));have zz:=hQ hbw7 (b:=w1.heap.size);(first|(simp [go_sem,z_w1,l_w1,kw1w6,jw1w6,kw1pw6,jw1pw6,kw2w6,jw2w6,kw2pw6,jw2pw6,kw3w6,jw3w6,kw3pw6,jw3pw6] at zz)|(simp [go_sem,kw1w6,jw1w6,kw1pw6,jw1pw6,kw2w6,jw2w6,kw2pw6,jw2pw6,kw3w6,jw3w6,kw3pw6,jw3pw6] at zz));(try clear x_w1 f_w1);(try clear z_w1);have z_w1:=zz;clear zz;(try clear l_w1);obtain ⟨x_w1,f_w1,l_w1⟩:=bO z_w1;have zz:=hQ hbw7 (b:=w1.heap.size+1);(first|(simp [go_sem,z_w1p,l_w1p,kw1w6,jw1w6,kw1pw6,jw1pw6,kw2w6,jw2w6,kw2pw6,jw2pw6,kw3w6,jw3w6,kw3pw6,jw3pw6] at zz)|(simp [go_sem,kw1w6,jw1w6,kw1pw6,jw1pw6,kw2w6,jw2w6,kw2pw6,jw2pw6,kw3w6,jw3w6,kw3pw6,jw3pw6] at zz));(try clear x_w1p f_w1p);(try clear z_w1p);have z_w1p:=zz;clear zz;(try clear l_w1p);obtain ⟨x_w1p,f_w1p,l_w1p⟩:=bO z_w1p;have zz:=hQ hbw7 (b:=w2.heap.size);(first|(simp [go_sem,z_w2,l_w2,kw1w6,jw1w6,kw1pw6,jw1pw6,kw2w6,jw2w6,kw2pw6,jw2pw6,kw3w6,jw3w6,kw3pw6,jw3pw6] at zz)|(simp [go_sem,kw1w6,jw1w6,kw1pw6,jw1pw6,kw2w6,jw2w6,kw2pw6,jw2pw6,kw3w6,jw3w6,kw3pw6,jw3pw6] at zz));(try clear x_w2 f_w2);(try clear z_w2);have z_w2:=zz;clear zz;(try clear l_w2);obtain ⟨x_w2,f_w2,l_w2⟩:=bO z_w2;have zz:=hQ hbw7 (b:=w2.heap.size+1);(first|(simp [go_sem,z_w2p,l_w2p,kw1w6,jw1w6,kw1pw6,jw1pw6,kw2w6,jw2w6,kw2pw6,jw2pw6,kw3w6,jw3w6,kw3pw6,jw3pw6] at zz)|(simp [go_sem,kw1w6,jw1w6,kw1pw6,jw1pw6,kw2w6,jw2w6,kw2pw6,jw2pw6,kw3w6,jw3w6,kw3pw6,jw3pw6] at zz));(try clear x_w2p f_w2p);(try clear z_w2p);have z_w2p:=zz;clear zz;(try clear l_w2p);obtain ⟨x_w2p,f_w2p,l_w2p⟩:=bO z_w2p;have zz:=hQ hbw7 (b:=w3.heap.size);(first|(simp [go_sem,z_w3,l_w3,kw1w6,jw1w6,kw1pw6,jw1pw6,kw2w6,jw2w6,kw2pw6,jw2pw6,kw3w6,jw3w6,kw3pw6,jw3pw6] at zz)|(simp [go_sem,kw1w6,jw1w6,kw1pw6,jw1pw6,kw2w6,jw2w6,kw2pw6,jw2pw6,kw3w6,jw3w6,kw3pw6,jw3pw6] at zz));(try clear x_w3 f_w3);(try clear z_w3);have z_w3:=zz;clear zz;(try clear l_w3);obtain ⟨x_w3,f_w3,l_w3⟩:=bO z_w3;have zz:=hQ hbw7 (b:=w3.heap.size+1);(first|(simp [go_sem,z_w3p,l_w3p,kw1w6,jw1w6,kw1pw6,jw1pw6,kw2w6,jw2w6,kw2pw6,jw2pw6,kw3w6,jw3w6,kw3pw6,jw3pw6] at zz)|(simp [go_sem,kw1w6,jw1w6,kw1pw6,jw1pw6,kw2w6,jw2w6,kw2pw6,jw2pw6,kw3w6,jw3w6,kw3pw6,jw3pw6] at zz));(try clear x_w3p f_w3p);(try clear z_w3p);have z_w3p:=zz;clear zz;(try clear l_w3p);obtain ⟨x_w3p,f_w3p,l_w3p⟩:=bO z_w3p
      have kw1w7:w1.heap.size<w7.heap.size:=by omega
      have jw1w7:w1.heap.size<w7.heap.size+1:=by omega
      have kw1pw7:w1.heap.size+1<w7.heap.size:=by omega
      have jw1pw7:w1.heap.size+1<w7.heap.size+1:=by omega
      have kw2w7:w2.heap.size<w7.heap.size:=by omega
      have jw2w7:w2.heap.size<w7.heap.size+1:=by omega
      have kw2pw7:w2.heap.size+1<w7.heap.size:=by omega
      have jw2pw7:w2.heap.size+1<w7.heap.size+1:=by omega
      have kw3w7:w3.heap.size<w7.heap.size:=by omega
      have jw3w7:w3.heap.size<w7.heap.size+1:=by omega
      have kw3pw7:w3.heap.size+1<w7.heap.size:=by omega
      have jw3pw7:w3.heap.size+1<w7.heap.size+1:=by omega
      go_wp2
      go_ret
      exact ⟨rfl,by exact zB⟩
end Go.Proofs.YthdjlpkcmhajlaaGreat
set_option maxRecDepth 100000
set_option linter.unusedSimpArgs false
set_option linter.unusedVariables false
namespace Go.Proofs.YthdjlpkcmhajlaaGreat
open Go.ChangeShapes Go.WideShapes Go.ChangeAt Go.RowKit Go.Deep
theorem own:ownKnob Tryz.prog.godebug=none:=by kernel_rfl
theorem laidOut:laidOutB Tryz.prog=true:=by kernel_rfl
section
variable {H:Type} {enc:TypeId × Value→H} {P:Program} {w:World} {spare:Nat→Bool} {held:Bool}
/-- A slice of elements that can be read lies in memory as said. -/
theorem dSlice {α:Type} (k:Nat) (val:α→Nat→Value) (Q:α→Prop) (d0:α) {t e:TypeId} (ht:P.underlying t=some (.slice e)) (hk:P.cellsOf e=k) (hk0:0<k)
    (dec:∀ (fuel:Nat) (cs:List Value) (x:DataW H × List MemPlace),DataW.trod enc P w 0 spare held fuel e cs=some x→∃ c:α,Q c∧∀ j,j<k→cs[j]?=some (val c j))
    {fuel:Nat} {cs:List Value} {x:DataW H × List MemPlace} (h:DataW.trod enc P w 0 spare held fuel t cs=some x) :
    ∃ (a:Option Addr) (l:List α) (cap:Nat),cs=[.slice a l.length cap]∧l.length≤cap∧cap≤maxLen∧(∀ c ∈ l,Q c)∧Seg w w.heap.size a l.length k (fun i j=>val (l.getD i d0) j):=by
  rcases open_slice ht h with ⟨hcs,_⟩|⟨ad,len,cap,m,n,D,Pl,hcs,_,hl,hm,hmm,_,hi⟩
  · exact ⟨none,[],0,hcs,Nat.le_refl _,Nat.zero_le _,by simp,.inl rfl⟩
  · have hlm:len≤m:=by rw [hmm];split <;> omega
    have hx:∀ i:Nat,∃ c:α,i<len→(Q c∧∀ j,j<k→w.cell? (ad.add (i*k+j))=some (val c j)):=by
      intro i
      by_cases hlt:i<len
      · obtain ⟨cs',hc,htr⟩:=hi i (by omega)
        rw [hk] at hc
        obtain ⟨_,_,hat⟩:=World.cells?_some hc
        obtain ⟨c,hq,hv⟩:=dec _ _ _ htr
        refine ⟨c,fun _=>⟨hq,fun j hj=>?_⟩⟩
        rw [← Go.Deep.add_add,hat j hj,hv j hj]
      · exact ⟨d0,fun h=>absurd h hlt⟩
    obtain ⟨g,hg⟩:=Classical.axiomOfChoice hx
    refine ⟨some ad,(List.range len).map g,cap,by simpa using hcs,by simpa using hl,hm,?_,?_⟩
    · intro c hc
      obtain ⟨i,hi',rfl⟩:=List.mem_map.1 hc
      exact (hg i (List.mem_range.1 hi')).1
    · by_cases h0:len=0
      · exact .inl (by simpa using h0)
      · obtain ⟨b,off,spot⟩:=ad
        have hz:=(hg 0 (by omega)).2 0 hk0
        have hspot:spot=none:=by simpa [Addr.add] using World.cell?_spot hz
        subst hspot
        refine .inr ⟨b,off,rfl,?_,fun i j hi' hj=>?_⟩
        · have:=block_lt_of_cell hz
          simpa [Addr.add] using this
        · have hlt:i<len:=by simpa using hi'
          have:=(hg i hlt).2 j hj
          rw [add_plain,← Nat.add_assoc] at this
          rw [this]
          simp [List.getD,hlt]
end
section
variable {H:Type} {enc:TypeId × Value→H} {P:Program} {w:World} {spare:Nat→Bool} {held:Bool}
end
def C3.wf (c:C3):Prop:=(Lit.int .i64 c.s).wf=true∧(Lit.int .i64 c.e).wf=true∧(Lit.int .i64 c.t).wf=true
section
variable {H:Type} {enc:TypeId × Value→H} {w:World} {spare:Nat→Bool} {held:Bool}
end
end Go.Proofs.YthdjlpkcmhajlaaGreat
set_option maxRecDepth 100000
set_option linter.unusedSimpArgs false
set_option linter.unusedVariables false
namespace Go.Proofs.YthdjlpkcmhajlaaGreat
open Go.ChangeShapes Go.WideShapes Go.ChangeAt Go.RowKit Go.Deep
section
variable {H:Type} {enc:TypeId × Value→H} {w:World} {spare:Nat→Bool} {held:Bool}
set_option maxRecDepth 100000 in
/-- Bytes as an argument. -/
theorem oBytes {r:Reach} {b0:Nat} {v:Value} {d:DataW H} {p:List MemPlace} (hv:Value.okWide Tryz.prog w r b0 22 v) (h:DataW.Trod enc Tryz.prog w 0 spare held 22 v d p) :
    ∃ (a:Option Addr) (n cap:Nat) (bs:Nat→Int),v=.slice a n cap∧n≤maxLen∧(∀ j,0≤bs j∧bs j≤255)∧Seg w w.heap.size a n 1 (fun j _=>.int .u8 (bs j)):=by
  obtain ⟨a,len,cap,rfl⟩:=okWide_slice Tryz.underlying22 hv
  obtain ⟨fuel,hf⟩:=h
  obtain ⟨a',l,cap',hcs,h1,h2,h3,h4⟩:=dSlice 1 (fun (c:Int) _=>.int .u8 c) (fun c=>0≤c∧c≤255) 0 Tryz.underlying22 (by kernel_rfl) (by decide) (fun fuel cs x hx=>by
    obtain ⟨c,rfl,_,hw⟩:=DataW.trod_int Tryz.underlying5 hx
    refine ⟨c,?_,fun j hj=>?_⟩
    · simp [Lit.wf,IntKind.min,IntKind.max,IntKind.signed,IntKind.bits] at hw;omega
    · have:j=0:=by omega
      subst this;rfl) hf
  simp [Value.cells] at hcs
  obtain ⟨rfl,rfl,rfl⟩:=hcs
  refine ⟨a,l.length,cap,fun j=>l.getD j 0,rfl,Nat.le_trans h1 h2,fun j=>?_,h4⟩
  by_cases hj:j<l.length
  · have:=h3 l[j] (List.getElem_mem hj)
    simpa [List.getD,hj] using this
  · have:l.getD j 0=0:=by simp [List.getD,Nat.le_of_not_lt hj]
    show 0≤l.getD j 0∧l.getD j 0≤255
    rw [this];omega
end
end Go.Proofs.YthdjlpkcmhajlaaGreat
