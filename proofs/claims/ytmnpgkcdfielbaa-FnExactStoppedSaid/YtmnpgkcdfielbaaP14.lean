/-
  Boxes of a call's own, by what points at them; no condition.
  Worlds of the program and of the laws, loaded and stored whole; no condition.
  The exact laws of chapter 11 return true, whatever they are called with, and turn nothing that was there; the lists hold at most as much as memory can hold.
-/
import Derived.Test.YtmnpgkcdfielbaaP13
import Derived.Test.YtmnpgkcdfielbaaP04
import Derived.Deep.RegionHeld3
import Derived.Deep.DeepCutAuto
set_option linter.unusedSimpArgs false
set_option linter.unusedVariables false
namespace Go.Proofs.Ytmnpgkcdfielbaa
open Go.RowKit
variable {w w':World} {v:Value} {lo b:Nat} {x y ys:Array Value} {T T':TypeId}
theorem belowAlloc (w:World) (o:Obj):Below w.heap.size w (w.alloc o):=(Below.refl _ _).alloc (Nat.le_refl _) o
theorem hpS (h:hp w b=some (.cells x T)) (hb:Below w.heap.size w w'):hp w' b=some (.cells x T):=(hpB hb (bO h).2.2).trans h
def IsBox (w:World) (v:Value) (lo:Nat) (x:Array Value) (T:TypeId):Prop:=∃ b,v=.pointer (some ⟨b,0,none⟩)∧lo≤b∧hp w b=some (.cells x T)
theorem IsBox.below (h:IsBox w v lo x T) (hb:Below w.heap.size w w'):IsBox w' v lo x T:=by
  obtain ⟨b,e,hl,hz⟩:=h
  exact ⟨b,e,hl,hpS hz hb⟩
theorem IsBox.new (h:lo≤w.heap.size):IsBox (w.alloc (.cells x T)) (.pointer (some ⟨w.heap.size,0,none⟩)) lo x T :=
  ⟨_,rfl,h,heap_alloc_new w _⟩
theorem hp_set (hz:hp w b=some (.cells y T)):hp (setBox w b ys) b=some (.cells ys T):=by rw [bx_heap_at,hz];rfl
theorem own_far {e:TypeId} {k m:Nat} {u:Value} {xs:List Value} (h:w.ownsRow lo e k u m xs) (hz:hp w b=some (.cells y T')) (hne:e≠T'):(setBox w b ys).ownsRow lo e k u m xs:=by
  refine own_box h fun e2=>?_
  rcases h.2 with ⟨rfl,_⟩|⟨g,cap,cur,rfl,_,hg,_⟩
  · cases e2
  · simp [Value.ownBlock] at e2
    subst e2
    unfold hp at hz
    rw [hz] at hg
    simp at hg
    exact hne hg.2.symm
theorem own_offs {e:TypeId} {k m:Nat} {u:Value} {xs:List Value} (h:w.ownsRow lo e k u m xs) (hz:hp w b=some (.cells y T')) (hne:e≠T'):∀ i,u.ownBlock=some i→i≠b:=by
  rintro i e2 rfl
  rcases h.2 with ⟨rfl,_⟩|⟨g,cap,cur,rfl,_,hg,_⟩
  · cases e2
  · simp [Value.ownBlock] at e2
    subst e2
    unfold hp at hz
    rw [hz] at hg
    simp at hg
    exact hne hg.2.symm
theorem Row.belowS {n k:Nat} {f:Nat→Nat→Value} (h:Row w b T n k f) (hb:Below w.heap.size w w'):Row w' b T n k f:=by
  obtain ⟨c,h1,h2⟩:=h
  exact ⟨c,(hb.block b (Array.getElem?_eq_some_iff.1 h1).1).trans h1,h2⟩
end Go.Proofs.Ytmnpgkcdfielbaa
set_option linter.unusedSimpArgs false
set_option linter.unusedVariables false
namespace Go.Proofs.Ytmnpgkcdfielbaa
open Go.RowKit
def wvals (x:Wo) (v1 v2 v3 v4:Value):Array Value:=#[.int .i64 x.ch.cap,.int .i64 x.ch.sent,.int .i64 x.ch.got,.int .i64 x.ch.fin,v1,v2,v3,v4,.int .i64 x.now]
theorem wv_ne (x:Wo) (v1 v2 v3 v4:Value):(wvals x v1 v2 v3 v4=#[])=False:=by simp [wvals]
theorem wv_size (x:Wo) (v1 v2 v3 v4:Value):(wvals x v1 v2 v3 v4).size=9:=rfl
theorem infoWo:(Try.prog.info? 37).map (fun i=>(i.zero,i.size,i.bytes))=some (some (.agg (wvals Wo.zero (.slice none 0 0) (.slice none 0 0) (.slice none 0 0) (.slice none 0 0))),9,136):=by kernel_rfl
theorem zeroWo (w:World):(zeroValue 37).run Try.prog w=.ok (.agg (wvals Wo.zero (.slice none 0 0) (.slice none 0 0) (.slice none 0 0) (.slice none 0 0))) w:=by
  obtain ⟨i,hi,hz,_⟩:=info_parts infoWo
  have e:Try.prog.info? 37=some Try.t37:=by kernel_rfl
  obtain rfl:Try.t37=i:=by rw [e] at hi;exact Option.some.inj hi
  simp [zeroValue,go_sem,hz]
theorem aggWo (w:World):(isAgg 37).run Try.prog w=.ok true w:=by simp [isAgg,go_sem]
theorem aggWoL (w:World):(isAgg 29).run Try.prog w=.ok true w:=by simp [isAgg,go_sem]
theorem szWo (w:World):(sizeOf 37).run Try.prog w=.ok 9 w:=by simp [go_sem]
theorem szWoL (w:World):(sizeOf 29).run Try.prog w=.ok 9 w:=by simp [go_sem]
variable {w:World} {b:Nat}
/-- Loading whole, as one word. -/
def LWo (x:Value):Sem Value:=Instr.loadAt 37 x
def LWoL (x:Value):Sem Value:=Instr.loadAt 29 x
theorem toLWo (x:Value):Instr.loadAt 37 x=LWo x:=by unfold LWo;simp
theorem toLWoL (x:Value):Instr.loadAt 29 x=LWoL x:=by unfold LWoL;simp
theorem runLWo (h:okO 9 (hp w b)=true):(LWo (.pointer (some ⟨b,0,none⟩))).run Try.prog w=.ok (.agg (cellsO (hp w b))) w:=by
  simp only [LWo,Instr.loadAt,Instr.sureAddr,Sem.run_bind,Sem.run_pure,Result.andThen_ok,load_box aggWo szWo h]
theorem runLWoL (h:okO 9 (hp w b)=true):(LWoL (.pointer (some ⟨b,0,none⟩))).run Try.prog w=.ok (.agg (cellsO (hp w b))) w:=by
  simp only [LWoL,Instr.loadAt,Instr.sureAddr,Sem.run_bind,Sem.run_pure,Result.andThen_ok,load_box aggWoL szWoL h]
theorem storeWo (x:Wo) (a b' d e:Option Addr) (n1 p n2 q n3 r n4 s:Nat) (h:okO 9 (hp w b)=true):(Instr.storeAt 37 (.pointer (some ⟨b,0,none⟩)) (.agg (wvals x (.slice a n1 p) (.slice b' n2 q) (.slice d n3 r) (.slice e n4 s)))).run Try.prog w=.ok () (setBox w b (wvals x (.slice a n1 p) (.slice b' n2 q) (.slice d n3 r) (.slice e n4 s))):=by
  simp only [Instr.storeAt,Instr.sureAddr,Sem.run_bind,Sem.run_pure,Result.andThen_ok]
  exact store_box szWo h rfl (by simp [wvals,Value.oneCell'])
theorem storeWoC (x:Wo) (a b' d e:Option Addr) (n1 p n2 q n3 r n4 s:Nat) (h:okO 9 (hp w b)=true):(storeCells ⟨b,0,none⟩ (wvals x (.slice a n1 p) (.slice b' n2 q) (.slice d n3 r) (.slice e n4 s)).toList).run Try.prog w=.ok () (setBox w b (wvals x (.slice a n1 p) (.slice b' n2 q) (.slice d n3 r) (.slice e n4 s))):=store_cells h rfl (by simp [wvals,Value.oneCell'])
theorem OnlR.hpk {lo hi:Nat} {w w':World} {x:Array Value} {t:TypeId} (k:OnlR lo hi w w') {i:Nat} (z:hp w i=some (.cells x t)) (hr:i<lo∨hi≤i):hp w' i=some (.cells x t):=(k.2.2.2.2 i (bO z).2.2 hr).trans z
/-- Where there is no list it holds nothing. -/
def NoneW (x:Wo) (a b d e:Option Addr) (p1 p2 p3 p4:Nat):Prop:=(a=none→p1=0)∧(b=none→p2=0)∧(d=none→x.hands.length=0∧p3=0)∧(e=none→x.deals.length=0∧p4=0)
theorem OnlP.hpk {P:Nat→Prop} {w w':World} {x:Array Value} {t:TypeId} (k:OnlP P w w') {i:Nat} (z:hp w i=some (.cells x t)) (hr:¬ P i):hp w' i=some (.cells x t):=(k.2.2.2.2 i (bO z).2.2 hr).trans z
theorem noneS (x:Wo) (a b d e:Addr) (p q r s:Nat):NoneW x (some a) (some b) (some d) (some e) p q r s:=⟨nofun,nofun,nofun,nofun⟩
theorem toWorldB (x:Wo) (a b d e:Option Addr) (p1 p2 p3 p4:Nat) (w:World) (h:SegW w w.heap.size x a b d e) (m:LenW x) :
    Calls Try.prog 6 #[.agg (wvals x (.slice a x.ch.cells.length p1) (.slice b x.ch.words.length p2) (.slice d x.hands.length p3) (.slice e x.deals.length p4))] w fun r' w'=>(∃ g1 g2 g3 g4,r'=.returned (.agg (wvals x (.slice (some ⟨g1,0,none⟩) x.ch.cells.length x.ch.cells.length) (.slice (some ⟨g2,0,none⟩) x.ch.words.length x.ch.words.length) (.slice (some ⟨g3,0,none⟩) x.hands.length x.hands.length) (.slice (some ⟨g4,0,none⟩) x.deals.length x.deals.length)))∧MadeW w' w.heap.size x g1 g2 g3 g4)∧Below w.heap.size w w':=toWorld_any x a b d e p1 p2 p3 p4 w h m
theorem MadeW.belowS {w w':World} {lo:Nat} {x:Wo} {g1 g2 g3 g4:Nat} (h:MadeW w lo x g1 g2 g3 g4) (hb:Below w.heap.size w w'):MadeW w' lo x g1 g2 g3 g4:=h.below hb (Nat.le_refl _)
theorem MadeW.lo' {w:World} {lo l:Nat} {x:Wo} {g1 g2 g3 g4:Nat} (h:MadeW w lo x g1 g2 g3 g4) (hl:l≤lo):MadeW w l x g1 g2 g3 g4:=⟨⟨Nat.le_trans hl h.1.1,Nat.le_trans hl h.1.2.1,Nat.le_trans hl h.1.2.2.1,Nat.le_trans hl h.1.2.2.2⟩,h.2⟩
/-- A world and one word more are answered; the lists are new. -/
def WordW (w w':World) (y:Wo) (t:Value) (r:Ending):Prop:=(∃ a b d e p1 p2 p3 p4,r=.returned (.tuple #[.agg (wvals y (.slice a y.ch.cells.length p1) (.slice b y.ch.words.length p2) (.slice d y.hands.length p3) (.slice e y.deals.length p4)),t])∧NewW w' w.heap.size w'.heap.size y a b d e p1 p2 p3 p4∧Apart a b d e)∧Below w.heap.size w w'
theorem WordR.toW {w w':World} {y:Wo} {t:Value} {r:Ending} (h:WordR w w' y t r):WordW w w' y t r:=by
  obtain ⟨⟨v1,v2,v3,v4,rfl,ho⟩,hb⟩:=h
  obtain ⟨a,b,d,e,p1,p2,p3,p4,rfl,rfl,rfl,rfl,hn,ha⟩:=ho.new
  exact ⟨⟨a,b,d,e,p1,p2,p3,p4,rfl,hn,ha⟩,hb⟩
theorem alloc_sz (W:World) (o:Obj):(W.alloc o).heap.size=W.heap.size+1:=Array.size_push _
theorem WOwn.belowS {w w':World} {lo:Nat} {v1 v2 v3 v4:Value} {y:Wo} (h:WOwn w lo v1 v2 v3 v4 y) (hb:Below w.heap.size w w'):WOwn w' lo v1 v2 v3 v4 y:=⟨own_below h.1 hb,own_below h.2.1 hb,own_below h.2.2.1 hb,own_below h.2.2.2 hb⟩
theorem WOwn.lo' {w:World} {lo l:Nat} {v1 v2 v3 v4:Value} {y:Wo} (h:WOwn w lo v1 v2 v3 v4 y) (hl:l≤lo):WOwn w l v1 v2 v3 v4 y:=⟨own_lo h.1 hl,own_lo h.2.1 hl,own_lo h.2.2.1 hl,own_lo h.2.2.2 hl⟩
theorem wsum_pos (x:Wo):¬ wsum x<0:=by unfold wsum;omega
attribute [go_sem] runLWo runLWoL wv_ne wv_size
end Go.Proofs.Ytmnpgkcdfielbaa
set_option linter.unusedSimpArgs false
set_option linter.unusedVariables false
namespace Go.Proofs.Ytmnpgkcdfielbaa
open Go.RowKit
set_option linter.unusedSimpArgs false
attribute [local simp] bx_size
attribute [local go_sem ↓] zeroWo toLWo toLWoL storeWo storeWoC
set_option maxRecDepth 100000 in
set_option maxHeartbeats 8000000 in
theorem exactStopped_any (x:Wo) (who:Int) (y:Wo) (tb:Bool) (hy:LenW x→LenW y) (a b d e:Option Addr) (p1 p2 p3 p4:Nat) (w:World) (h:SegW w w.heap.size x a b d e) (m:x.ch.cells.length≤maxLen∧x.ch.words.length≤maxLen∧x.hands.length≤maxLen∧x.deals.length≤maxLen)
    (hs:LenW x→∀ (a b d e:Option Addr) (p1 p2 p3 p4:Nat) (w:World),SegW w w.heap.size x a b d e→NoneW x a b d e p1 p2 p3 p4→Calls Try.prog 5 #[.agg (wvals x (.slice a x.ch.cells.length p1) (.slice b x.ch.words.length p2) (.slice d x.hands.length p3) (.slice e x.deals.length p4)),.int .i64 who] w fun r' w'=>WordW w w' y (.bool tb) r')
    (hi:LenW x→∀ (a b d e:Option Addr) (p1 p2 p3 p4:Nat) (w:World),SegW w w.heap.size x a b d e→NoneW x a b d e p1 p2 p3 p4→Calls Try.prog 7 #[.agg (wvals x (.slice a x.ch.cells.length p1) (.slice b x.ch.words.length p2) (.slice d x.hands.length p3) (.slice e x.deals.length p4)),.int .i64 who] w fun r' w'=>WordW w w' y (.bool tb) r') :
    Calls Try.prog 3 #[.agg (wvals x (.slice a x.ch.cells.length p1) (.slice b x.ch.words.length p2) (.slice d x.hands.length p3) (.slice e x.deals.length p4)),.int .i64 who] w fun r w'=>r=.returned (.bool true)∧Below w.heap.size w w':=by
  have H:=Lib.hid h
  have M:=Lib.hid m
  have HS:=Lib.hid hs
  have HI:=Lib.hid hi
  clear h m hs hi
  have hsum:=wsum_pos x
  have hsumy:=wsum_pos y
  go_enter Try.func3,Try.ntmps3
  go_wp2_with fail
  refine (szWorld_any x a b d e p1 p2 p3 p4 1048576 _ (by omega) (by omega) M.out.1 M.out.2.1 M.out.2.2.1 M.out.2.2.2).mono ?_
  rintro _ w1 ⟨⟨z,rfl,hz⟩,hbw1⟩
  have hB1:Below w.heap.size w w1:=bT (by exact zB) hbw1
  have hC1:Below w.heap.size w w1:=bT (by exact zB) hbw1
  have hsw1:=hbw1.size;(try (simp at hsw1));have zz:=hQ hbw1 (b:=w.heap.size);(first|(simp [go_sem,z_w,l_w] at zz)|(simp [go_sem] at zz));(try clear x_w f_w);(try clear z_w);have z_w:=zz;clear zz;(try clear l_w);obtain ⟨x_w,f_w,l_w⟩:=bO z_w
  clear hbw1
  by_cases hn:z<0
  · go_wp2
    go_ret
    exact ⟨rfl,hB1⟩
  have m:=hz (by omega)
  clear hz
  have my:=hy m
  clear hy
  replace HS:=Lib.hid (HS.out m)
  replace HI:=Lib.hid (HI.out m)
  go_wp2_with fail
  refine (toWorldB x a b d e p1 p2 p3 p4 _ (((H.out.below (by exact zB)).more (by (try simp) <;> omega))) m).mono ?_
  rintro _ w2 ⟨⟨g1,g2,g3,g4,rfl,G⟩,hbw2⟩
  have hB2:Below w.heap.size w w2:=bT (by exact zB) hbw2
  have hC2:Below w1.heap.size w1 w2:=bT (by exact zB) hbw2
  have hsw2:=hbw2.size;(try (simp at hsw2));have zz:=hQ hbw2 (b:=w.heap.size);(first|(simp [go_sem,z_w,l_w] at zz)|(simp [go_sem] at zz));(try clear x_w f_w);(try clear z_w);have z_w:=zz;clear zz;(try clear l_w);obtain ⟨x_w,f_w,l_w⟩:=bO z_w
  clear hbw2
  go_wp2_with fail
  refine (HS.out _ _ _ _ _ _ _ _ _ ((G.below (Below.refl _ _) (Nat.le_refl _)).seg) (noneS _ _ _ _ _ _ _ _ _)).mono ?_
  rintro _ w3 ⟨⟨ua,ub,ud,ue,up1,up2,up3,up4,rfl,UL,UA⟩,hbw3⟩
  have hB3:Below w.heap.size w w3:=bT (by exact zB) hbw3
  have hC3:Below w2.heap.size w2 w3:=bT (by exact zB) hbw3
  have hsw3:=hbw3.size;(try (simp at hsw3));have zz:=hQ hbw3 (b:=w.heap.size);(first|(simp [go_sem,z_w,l_w] at zz)|(simp [go_sem] at zz));(try clear x_w f_w);(try clear z_w);have z_w:=zz;clear zz;(try clear l_w);obtain ⟨x_w,f_w,l_w⟩:=bO z_w
  clear hbw3
  go_upto_region 6 with fail
  generalize hw4:World.alloc w3 _=w4
  have z_w3:hp w4 w3.heap.size=some (.cells (wvals y (.slice ua y.ch.cells.length up1) (.slice ub y.ch.words.length up2) (.slice ud y.hands.length up3) (.slice ue y.deals.length up4)) 37):=by rw [← hw4];exact heap_alloc_new _ _
  have hC4:Below w3.heap.size w3 w4:=by rw [← hw4];exact belowAlloc _ _
  have hsw4:w4.heap.size=w3.heap.size+1:=by rw [← hw4];exact alloc_sz _ _
  clear hw4
  have hB4:Below w.heap.size w w4:=bT hB3 hC4
  obtain ⟨x_w3,f_w3,l_w3⟩:=bO z_w3
  replace UL:=UL.below hC4
  replace z_w:=hpS z_w hC4
  clear x_w f_w l_w
  obtain ⟨x_w,f_w,l_w⟩:=bO z_w
  go_wp2_with fail
  refine (toWorldB x a b d e p1 p2 p3 p4 _ (((H.out.below (by exact zB)).more (by (try simp) <;> omega))) m).mono ?_
  rintro _ w5 ⟨⟨y1,y2,y3,y4,rfl,Y⟩,hbw5⟩
  have hB5:Below w.heap.size w w5:=bT (by exact zB) hbw5
  have hC5:Below w4.heap.size w4 w5:=bT (by exact zB) hbw5
  have hsw5:=hbw5.size;(try (simp at hsw5));have zz:=hQ hbw5 (b:=w.heap.size);(first|(simp [go_sem,z_w,l_w] at zz)|(simp [go_sem] at zz));(try clear x_w f_w);(try clear z_w);have z_w:=zz;clear zz;(try clear l_w);obtain ⟨x_w,f_w,l_w⟩:=bO z_w;have zz:=hQ hbw5 (b:=w3.heap.size);(first|(simp [go_sem,z_w3,l_w3] at zz)|(simp [go_sem] at zz));(try clear x_w3 f_w3);(try clear z_w3);have z_w3:=zz;clear zz;(try clear l_w3);obtain ⟨x_w3,f_w3,l_w3⟩:=bO z_w3
  clear hbw5
  replace UL:=UL.below hC5
  obtain ⟨X0,A0⟩:=Y.new
  clear Y
  go_upto_region 7 with fail
  generalize hw6:World.alloc w5 _=w6
  have z_w5:hp w6 w5.heap.size=some (.cells (wvals x (.slice (some ⟨y1,0,none⟩) x.ch.cells.length x.ch.cells.length) (.slice (some ⟨y2,0,none⟩) x.ch.words.length x.ch.words.length) (.slice (some ⟨y3,0,none⟩) x.hands.length x.hands.length) (.slice (some ⟨y4,0,none⟩) x.deals.length x.deals.length)) 37):=by rw [← hw6];exact heap_alloc_new _ _
  have hC6:Below w5.heap.size w5 w6:=by rw [← hw6];exact belowAlloc _ _
  have hsw6:w6.heap.size=w5.heap.size+1:=by rw [← hw6];exact alloc_sz _ _
  clear hw6
  have hB6:Below w.heap.size w w6:=bT hB5 hC6
  obtain ⟨x_w5,f_w5,l_w5⟩:=bO z_w5
  replace UL:=UL.below hC6
  replace X0:=X0.below hC6
  replace z_w:=hpS z_w hC6
  clear x_w f_w l_w
  obtain ⟨x_w,f_w,l_w⟩:=bO z_w
  replace z_w3:=hpS z_w3 hC6
  clear x_w3 f_w3 l_w3
  obtain ⟨x_w3,f_w3,l_w3⟩:=bO z_w3
  go_wp2_with fail
  refine (HI.out _ _ _ _ _ _ _ _ _ (X0.segAt (by exact zB)) (noneS _ _ _ _ _ _ _ _ _)).mono ?_
  rintro _ w7 ⟨⟨ga,gb,gd,ge,gp1,gp2,gp3,gp4,rfl,GL,GA⟩,hbw7⟩
  have hB7:Below w.heap.size w w7:=bT (by exact zB) hbw7
  have hC7:Below w6.heap.size w6 w7:=bT (by exact zB) hbw7
  have hsw7:=hbw7.size;(try (simp at hsw7));have zz:=hQ hbw7 (b:=w.heap.size);(first|(simp [go_sem,z_w,l_w] at zz)|(simp [go_sem] at zz));(try clear x_w f_w);(try clear z_w);have z_w:=zz;clear zz;(try clear l_w);obtain ⟨x_w,f_w,l_w⟩:=bO z_w;have zz:=hQ hbw7 (b:=w3.heap.size);(first|(simp [go_sem,z_w3,l_w3] at zz)|(simp [go_sem] at zz));(try clear x_w3 f_w3);(try clear z_w3);have z_w3:=zz;clear zz;(try clear l_w3);obtain ⟨x_w3,f_w3,l_w3⟩:=bO z_w3;have zz:=hQ hbw7 (b:=w5.heap.size);(first|(simp [go_sem,z_w5,l_w5] at zz)|(simp [go_sem] at zz));(try clear x_w5 f_w5);(try clear z_w5);have z_w5:=zz;clear zz;(try clear l_w5);obtain ⟨x_w5,f_w5,l_w5⟩:=bO z_w5
  clear hbw7
  replace UL:=UL.below hC7
  replace X0:=X0.below hC7
  go_upto_region 8 with fail
  generalize hw8:World.alloc w7 _=w8
  have z_w7:hp w8 w7.heap.size=some (.cells (wvals y (.slice ga y.ch.cells.length gp1) (.slice gb y.ch.words.length gp2) (.slice gd y.hands.length gp3) (.slice ge y.deals.length gp4)) 37):=by rw [← hw8];exact heap_alloc_new _ _
  have hC8:Below w7.heap.size w7 w8:=by rw [← hw8];exact belowAlloc _ _
  have hsw8:w8.heap.size=w7.heap.size+1:=by rw [← hw8];exact alloc_sz _ _
  clear hw8
  have hB8:Below w.heap.size w w8:=bT hB7 hC8
  obtain ⟨x_w7,f_w7,l_w7⟩:=bO z_w7
  replace UL:=UL.below hC8
  replace X0:=X0.below hC8
  replace GL:=GL.below hC8
  replace z_w:=hpS z_w hC8
  clear x_w f_w l_w
  obtain ⟨x_w,f_w,l_w⟩:=bO z_w
  replace z_w3:=hpS z_w3 hC8
  clear x_w3 f_w3 l_w3
  obtain ⟨x_w3,f_w3,l_w3⟩:=bO z_w3
  replace z_w5:=hpS z_w5 hC8
  clear x_w5 f_w5 l_w5
  obtain ⟨x_w5,f_w5,l_w5⟩:=bO z_w5
  go_wp2_with fail
  refine (eqWorld_any y _ _ _ _ _ _ _ _ _ _ _ _ _ _ _ _ _ (GL.segAt (by exact zB)) (UL.segAt (by exact zB)) my).mono ?_
  rintro _ w9 ⟨rfl,hbw9⟩
  have hB9:Below w.heap.size w w9:=bT (by exact zB) hbw9
  have hC9:Below w8.heap.size w8 w9:=bT (by exact zB) hbw9
  have hsw9:=hbw9.size;(try (simp at hsw9));have zz:=hQ hbw9 (b:=w.heap.size);(first|(simp [go_sem,z_w,l_w] at zz)|(simp [go_sem] at zz));(try clear x_w f_w);(try clear z_w);have z_w:=zz;clear zz;(try clear l_w);obtain ⟨x_w,f_w,l_w⟩:=bO z_w;have zz:=hQ hbw9 (b:=w3.heap.size);(first|(simp [go_sem,z_w3,l_w3] at zz)|(simp [go_sem] at zz));(try clear x_w3 f_w3);(try clear z_w3);have z_w3:=zz;clear zz;(try clear l_w3);obtain ⟨x_w3,f_w3,l_w3⟩:=bO z_w3;have zz:=hQ hbw9 (b:=w5.heap.size);(first|(simp [go_sem,z_w5,l_w5] at zz)|(simp [go_sem] at zz));(try clear x_w5 f_w5);(try clear z_w5);have z_w5:=zz;clear zz;(try clear l_w5);obtain ⟨x_w5,f_w5,l_w5⟩:=bO z_w5;have zz:=hQ hbw9 (b:=w7.heap.size);(first|(simp [go_sem,z_w7,l_w7] at zz)|(simp [go_sem] at zz));(try clear x_w7 f_w7);(try clear z_w7);have z_w7:=zz;clear zz;(try clear l_w7);obtain ⟨x_w7,f_w7,l_w7⟩:=bO z_w7
  clear hbw9
  replace UL:=UL.below hC9
  replace X0:=X0.below hC9
  replace GL:=GL.below hC9
  go_upto_region 10 with fail
  refine wp_region_inv [[],[],[1],[0,1,2],[0,1,2,3]] [45,46,47,48,49] (fun l s wx=>(Below w9.heap.size w9 wx)∧(l 0=true→s 45=.agg (wvals x (.slice (some ⟨y1,0,none⟩) x.ch.cells.length x.ch.cells.length) (.slice (some ⟨y2,0,none⟩) x.ch.words.length x.ch.words.length) (.slice (some ⟨y3,0,none⟩) x.hands.length x.hands.length) (.slice (some ⟨y4,0,none⟩) x.deals.length x.deals.length)))∧(l 1=true→s 46=.agg (wvals x (.slice a x.ch.cells.length p1) (.slice b x.ch.words.length p2) (.slice d x.hands.length p3) (.slice e x.deals.length p4)))∧(l 2=true→∃ g1 g2 g3 g4:Nat,s 47=.agg (wvals x (.slice (some ⟨g1,0,none⟩) x.ch.cells.length x.ch.cells.length) (.slice (some ⟨g2,0,none⟩) x.ch.words.length x.ch.words.length) (.slice (some ⟨g3,0,none⟩) x.hands.length x.hands.length) (.slice (some ⟨g4,0,none⟩) x.deals.length x.deals.length))∧MadeW wx w9.heap.size x g1 g2 g3 g4)∧(l 3=true→s 48=.bool true)∧(l 4=true→s 49=.bool false)) (by kernel_rfl) (by kernel_rfl) (by kernel_rfl) (fun s=>by (simp only [fill,fillA,List.setIfInBounds_toArray,List.set_cons_zero,List.set_cons_succ];rfl)) (fun s=>⟨(Below.refl _ _).drew,fun h=>absurd h Bool.false_ne_true,fun h=>absurd h Bool.false_ne_true,fun h=>absurd h Bool.false_ne_true,fun h=>absurd h Bool.false_ne_true,fun h=>absurd h Bool.false_ne_true⟩) ?_ ?_
  refine ⟨?_,?_,?_,?_,?_,trivial⟩;rotate_left 5
  · intro l s w10 hall hf
    have ec:=hf.2.2.2.2.2 (hall 4 rfl)
    have hC10:Below w9.heap.size w9 w10:=hf.1
    simp only [ec]
    clear ec hf hall
    have hB10:Below w.heap.size w w10:=bT hB9 hC10
    have hsw10:=hC10.size
    replace UL:=UL.below hC10
    replace X0:=X0.below hC10
    replace GL:=GL.below hC10
    replace z_w:=hpS z_w hC10
    clear x_w f_w l_w
    obtain ⟨x_w,f_w,l_w⟩:=bO z_w
    replace z_w3:=hpS z_w3 hC10
    clear x_w3 f_w3 l_w3
    obtain ⟨x_w3,f_w3,l_w3⟩:=bO z_w3
    replace z_w5:=hpS z_w5 hC10
    clear x_w5 f_w5 l_w5
    obtain ⟨x_w5,f_w5,l_w5⟩:=bO z_w5
    replace z_w7:=hpS z_w7 hC10
    clear x_w7 f_w7 l_w7
    obtain ⟨x_w7,f_w7,l_w7⟩:=bO z_w7
    go_wp2_with fail
    refine (markWorld_any x _ _ _ _ _ _ _ _ _ _ _ (X0.below (by exact zB)) A0 m).mono ?_
    rintro _ w11 ⟨rfl,M_X0,hP⟩
    replace hP:OnlP _ w10 w11:=OnlP.trans (OnlP.of_below (by exact zB)) hP
    have hO:OnlR w4.heap.size w5.heap.size w10 w11:=hP.toR fun i o=>by have:=NewW.ofW (w':=w) X0 i o;omega
    have hsw11:=hO.2.2.2.1
    have hB11:Below w.heap.size w w11:=OnlR.below hB10 hO (by omega) (by omega)
    replace UL:=UL.keptR hO (by omega)
    replace GL:=GL.keptR hO (by omega)
    replace z_w:=hO.hpk z_w (by omega)
    clear x_w f_w l_w
    obtain ⟨x_w,f_w,l_w⟩:=bO z_w
    replace z_w3:=hO.hpk z_w3 (by omega)
    clear x_w3 f_w3 l_w3
    obtain ⟨x_w3,f_w3,l_w3⟩:=bO z_w3
    replace z_w5:=hO.hpk z_w5 (by omega)
    clear x_w5 f_w5 l_w5
    obtain ⟨x_w5,f_w5,l_w5⟩:=bO z_w5
    replace z_w7:=hO.hpk z_w7 (by omega)
    clear x_w7 f_w7 l_w7
    obtain ⟨x_w7,f_w7,l_w7⟩:=bO z_w7
    clear X0 hO hP
    have X0:=M_X0
    clear M_X0
    clear X0
    go_wp2_with fail
    refine (eqWorld_any y _ _ _ _ _ _ _ _ _ _ _ _ _ _ _ _ _ (GL.segAt (by exact zB)) (UL.segAt (by exact zB)) my).mono ?_
    rintro _ w12 ⟨rfl,hbw12⟩
    have hB12:Below w.heap.size w w12:=bT (by exact zB) hbw12
    have hC12:Below w11.heap.size w11 w12:=bT (by exact zB) hbw12
    have hsw12:=hbw12.size;(try (simp at hsw12));have zz:=hQ hbw12 (b:=w.heap.size);(first|(simp [go_sem,z_w,l_w] at zz)|(simp [go_sem] at zz));(try clear x_w f_w);(try clear z_w);have z_w:=zz;clear zz;(try clear l_w);obtain ⟨x_w,f_w,l_w⟩:=bO z_w;have zz:=hQ hbw12 (b:=w3.heap.size);(first|(simp [go_sem,z_w3,l_w3] at zz)|(simp [go_sem] at zz));(try clear x_w3 f_w3);(try clear z_w3);have z_w3:=zz;clear zz;(try clear l_w3);obtain ⟨x_w3,f_w3,l_w3⟩:=bO z_w3;have zz:=hQ hbw12 (b:=w5.heap.size);(first|(simp [go_sem,z_w5,l_w5] at zz)|(simp [go_sem] at zz));(try clear x_w5 f_w5);(try clear z_w5);have z_w5:=zz;clear zz;(try clear l_w5);obtain ⟨x_w5,f_w5,l_w5⟩:=bO z_w5;have zz:=hQ hbw12 (b:=w7.heap.size);(first|(simp [go_sem,z_w7,l_w7] at zz)|(simp [go_sem] at zz));(try clear x_w7 f_w7);(try clear z_w7);have z_w7:=zz;clear zz;(try clear l_w7);obtain ⟨x_w7,f_w7,l_w7⟩:=bO z_w7
    clear hbw12
    replace UL:=UL.below hC12
    replace GL:=GL.below hC12
    go_wp2_with fail
    refine (markWorld_any y _ _ _ _ _ _ _ _ _ _ _ (GL.below (by exact zB)) GA my).mono ?_
    rintro _ w13 ⟨rfl,M_GL,hP⟩
    replace hP:OnlP _ w12 w13:=OnlP.trans (OnlP.of_below (by exact zB)) hP
    have hO:OnlR w6.heap.size w7.heap.size w12 w13:=hP.toR fun i o=>by have:=NewW.ofW (w':=w) GL i o;omega
    have hsw13:=hO.2.2.2.1
    have hB13:Below w.heap.size w w13:=OnlR.below hB12 hO (by omega) (by omega)
    replace UL:=UL.keptR hO (by omega)
    replace z_w:=hO.hpk z_w (by omega)
    clear x_w f_w l_w
    obtain ⟨x_w,f_w,l_w⟩:=bO z_w
    replace z_w3:=hO.hpk z_w3 (by omega)
    clear x_w3 f_w3 l_w3
    obtain ⟨x_w3,f_w3,l_w3⟩:=bO z_w3
    replace z_w5:=hO.hpk z_w5 (by omega)
    clear x_w5 f_w5 l_w5
    obtain ⟨x_w5,f_w5,l_w5⟩:=bO z_w5
    replace z_w7:=hO.hpk z_w7 (by omega)
    clear x_w7 f_w7 l_w7
    obtain ⟨x_w7,f_w7,l_w7⟩:=bO z_w7
    clear GL hO hP
    have GL:=M_GL
    clear M_GL
    go_wp2_with fail
    refine (heldWorld_any y _ _ _ _ _ _ _ _ _ _ _ (GL.below (by exact zB)) my).mono ?_
    rintro _ w14 ⟨rfl,hbw14⟩
    have hB14:Below w.heap.size w w14:=bT (by exact zB) hbw14
    have hC14:Below w13.heap.size w13 w14:=bT (by exact zB) hbw14
    have hsw14:=hbw14.size;(try (simp at hsw14));have zz:=hQ hbw14 (b:=w.heap.size);(first|(simp [go_sem,z_w,l_w] at zz)|(simp [go_sem] at zz));(try clear x_w f_w);(try clear z_w);have z_w:=zz;clear zz;(try clear l_w);obtain ⟨x_w,f_w,l_w⟩:=bO z_w;have zz:=hQ hbw14 (b:=w3.heap.size);(first|(simp [go_sem,z_w3,l_w3] at zz)|(simp [go_sem] at zz));(try clear x_w3 f_w3);(try clear z_w3);have z_w3:=zz;clear zz;(try clear l_w3);obtain ⟨x_w3,f_w3,l_w3⟩:=bO z_w3;have zz:=hQ hbw14 (b:=w5.heap.size);(first|(simp [go_sem,z_w5,l_w5] at zz)|(simp [go_sem] at zz));(try clear x_w5 f_w5);(try clear z_w5);have z_w5:=zz;clear zz;(try clear l_w5);obtain ⟨x_w5,f_w5,l_w5⟩:=bO z_w5;have zz:=hQ hbw14 (b:=w7.heap.size);(first|(simp [go_sem,z_w7,l_w7] at zz)|(simp [go_sem] at zz));(try clear x_w7 f_w7);(try clear z_w7);have z_w7:=zz;clear zz;(try clear l_w7);obtain ⟨x_w7,f_w7,l_w7⟩:=bO z_w7
    clear hbw14
    replace UL:=UL.below hC14
    replace GL:=GL.below hC14
    go_wp2_with fail
    refine (toWorldB x a b d e p1 p2 p3 p4 _ (((H.out.below (by exact zB)).more (by (try simp) <;> omega))) m).mono ?_
    rintro _ w15 ⟨⟨q1,q2,q3,q4,rfl,Q⟩,hbw15⟩
    have hB15:Below w.heap.size w w15:=bT (by exact zB) hbw15
    have hC15:Below w14.heap.size w14 w15:=bT (by exact zB) hbw15
    have hsw15:=hbw15.size;(try (simp at hsw15));have zz:=hQ hbw15 (b:=w.heap.size);(first|(simp [go_sem,z_w,l_w] at zz)|(simp [go_sem] at zz));(try clear x_w f_w);(try clear z_w);have z_w:=zz;clear zz;(try clear l_w);obtain ⟨x_w,f_w,l_w⟩:=bO z_w;have zz:=hQ hbw15 (b:=w3.heap.size);(first|(simp [go_sem,z_w3,l_w3] at zz)|(simp [go_sem] at zz));(try clear x_w3 f_w3);(try clear z_w3);have z_w3:=zz;clear zz;(try clear l_w3);obtain ⟨x_w3,f_w3,l_w3⟩:=bO z_w3;have zz:=hQ hbw15 (b:=w5.heap.size);(first|(simp [go_sem,z_w5,l_w5] at zz)|(simp [go_sem] at zz));(try clear x_w5 f_w5);(try clear z_w5);have z_w5:=zz;clear zz;(try clear l_w5);obtain ⟨x_w5,f_w5,l_w5⟩:=bO z_w5;have zz:=hQ hbw15 (b:=w7.heap.size);(first|(simp [go_sem,z_w7,l_w7] at zz)|(simp [go_sem] at zz));(try clear x_w7 f_w7);(try clear z_w7);have z_w7:=zz;clear zz;(try clear l_w7);obtain ⟨x_w7,f_w7,l_w7⟩:=bO z_w7
    clear hbw15
    replace UL:=UL.below hC15
    replace GL:=GL.below hC15
    go_wp2_with fail
    refine (HI.out _ _ _ _ _ _ _ _ _ ((Q.below (Below.refl _ _) (Nat.le_refl _)).seg) (noneS _ _ _ _ _ _ _ _ _)).mono ?_
    rintro _ w16 ⟨⟨ha,hb,hd,he,hp1,hp2,hp3,hp4,rfl,HL,HA⟩,hbw16⟩
    have hB16:Below w.heap.size w w16:=bT (by exact zB) hbw16
    have hC16:Below w15.heap.size w15 w16:=bT (by exact zB) hbw16
    have hsw16:=hbw16.size;(try (simp at hsw16));have zz:=hQ hbw16 (b:=w.heap.size);(first|(simp [go_sem,z_w,l_w] at zz)|(simp [go_sem] at zz));(try clear x_w f_w);(try clear z_w);have z_w:=zz;clear zz;(try clear l_w);obtain ⟨x_w,f_w,l_w⟩:=bO z_w;have zz:=hQ hbw16 (b:=w3.heap.size);(first|(simp [go_sem,z_w3,l_w3] at zz)|(simp [go_sem] at zz));(try clear x_w3 f_w3);(try clear z_w3);have z_w3:=zz;clear zz;(try clear l_w3);obtain ⟨x_w3,f_w3,l_w3⟩:=bO z_w3;have zz:=hQ hbw16 (b:=w5.heap.size);(first|(simp [go_sem,z_w5,l_w5] at zz)|(simp [go_sem] at zz));(try clear x_w5 f_w5);(try clear z_w5);have z_w5:=zz;clear zz;(try clear l_w5);obtain ⟨x_w5,f_w5,l_w5⟩:=bO z_w5;have zz:=hQ hbw16 (b:=w7.heap.size);(first|(simp [go_sem,z_w7,l_w7] at zz)|(simp [go_sem] at zz));(try clear x_w7 f_w7);(try clear z_w7);have z_w7:=zz;clear zz;(try clear l_w7);obtain ⟨x_w7,f_w7,l_w7⟩:=bO z_w7
    clear hbw16
    replace UL:=UL.below hC16
    replace GL:=GL.below hC16
    go_upto_region 25 with fail
    generalize hw17:World.alloc w16 _=w17
    have z_w16:hp w17 w16.heap.size=some (.cells (wvals y (.slice ha y.ch.cells.length hp1) (.slice hb y.ch.words.length hp2) (.slice hd y.hands.length hp3) (.slice he y.deals.length hp4)) 37):=by rw [← hw17];exact heap_alloc_new _ _
    have hC17:Below w16.heap.size w16 w17:=by rw [← hw17];exact belowAlloc _ _
    have hsw17:w17.heap.size=w16.heap.size+1:=by rw [← hw17];exact alloc_sz _ _
    clear hw17
    have hB17:Below w.heap.size w w17:=bT hB16 hC17
    obtain ⟨x_w16,f_w16,l_w16⟩:=bO z_w16
    replace UL:=UL.below hC17
    replace GL:=GL.below hC17
    replace HL:=HL.below hC17
    replace z_w:=hpS z_w hC17
    clear x_w f_w l_w
    obtain ⟨x_w,f_w,l_w⟩:=bO z_w
    replace z_w3:=hpS z_w3 hC17
    clear x_w3 f_w3 l_w3
    obtain ⟨x_w3,f_w3,l_w3⟩:=bO z_w3
    replace z_w5:=hpS z_w5 hC17
    clear x_w5 f_w5 l_w5
    obtain ⟨x_w5,f_w5,l_w5⟩:=bO z_w5
    replace z_w7:=hpS z_w7 hC17
    clear x_w7 f_w7 l_w7
    obtain ⟨x_w7,f_w7,l_w7⟩:=bO z_w7
    go_wp2_with fail
    refine (eqWorld_any y _ _ _ _ _ _ _ _ _ _ _ _ _ _ _ _ _ (HL.segAt (by exact zB)) (UL.segAt (by exact zB)) my).mono ?_
    rintro _ w18 ⟨rfl,hbw18⟩
    have hB18:Below w.heap.size w w18:=bT (by exact zB) hbw18
    have hC18:Below w17.heap.size w17 w18:=bT (by exact zB) hbw18
    have hsw18:=hbw18.size;(try (simp at hsw18));have zz:=hQ hbw18 (b:=w.heap.size);(first|(simp [go_sem,z_w,l_w] at zz)|(simp [go_sem] at zz));(try clear x_w f_w);(try clear z_w);have z_w:=zz;clear zz;(try clear l_w);obtain ⟨x_w,f_w,l_w⟩:=bO z_w;have zz:=hQ hbw18 (b:=w3.heap.size);(first|(simp [go_sem,z_w3,l_w3] at zz)|(simp [go_sem] at zz));(try clear x_w3 f_w3);(try clear z_w3);have z_w3:=zz;clear zz;(try clear l_w3);obtain ⟨x_w3,f_w3,l_w3⟩:=bO z_w3;have zz:=hQ hbw18 (b:=w5.heap.size);(first|(simp [go_sem,z_w5,l_w5] at zz)|(simp [go_sem] at zz));(try clear x_w5 f_w5);(try clear z_w5);have z_w5:=zz;clear zz;(try clear l_w5);obtain ⟨x_w5,f_w5,l_w5⟩:=bO z_w5;have zz:=hQ hbw18 (b:=w7.heap.size);(first|(simp [go_sem,z_w7,l_w7] at zz)|(simp [go_sem] at zz));(try clear x_w7 f_w7);(try clear z_w7);have z_w7:=zz;clear zz;(try clear l_w7);obtain ⟨x_w7,f_w7,l_w7⟩:=bO z_w7;have zz:=hQ hbw18 (b:=w16.heap.size);(first|(simp [go_sem,z_w16,l_w16] at zz)|(simp [go_sem] at zz));(try clear x_w16 f_w16);(try clear z_w16);have z_w16:=zz;clear zz;(try clear l_w16);obtain ⟨x_w16,f_w16,l_w16⟩:=bO z_w16
    clear hbw18
    replace UL:=UL.below hC18
    replace GL:=GL.below hC18
    replace HL:=HL.below hC18
    go_wp2_with fail
    refine (heldWorld_any y _ _ _ _ _ _ _ _ _ _ _ (GL.below (by exact zB)) my).mono ?_
    rintro _ w19 ⟨rfl,hbw19⟩
    have hB19:Below w.heap.size w w19:=bT (by exact zB) hbw19
    have hC19:Below w18.heap.size w18 w19:=bT (by exact zB) hbw19
    have hsw19:=hbw19.size;(try (simp at hsw19));have zz:=hQ hbw19 (b:=w.heap.size);(first|(simp [go_sem,z_w,l_w] at zz)|(simp [go_sem] at zz));(try clear x_w f_w);(try clear z_w);have z_w:=zz;clear zz;(try clear l_w);obtain ⟨x_w,f_w,l_w⟩:=bO z_w;have zz:=hQ hbw19 (b:=w3.heap.size);(first|(simp [go_sem,z_w3,l_w3] at zz)|(simp [go_sem] at zz));(try clear x_w3 f_w3);(try clear z_w3);have z_w3:=zz;clear zz;(try clear l_w3);obtain ⟨x_w3,f_w3,l_w3⟩:=bO z_w3;have zz:=hQ hbw19 (b:=w5.heap.size);(first|(simp [go_sem,z_w5,l_w5] at zz)|(simp [go_sem] at zz));(try clear x_w5 f_w5);(try clear z_w5);have z_w5:=zz;clear zz;(try clear l_w5);obtain ⟨x_w5,f_w5,l_w5⟩:=bO z_w5;have zz:=hQ hbw19 (b:=w7.heap.size);(first|(simp [go_sem,z_w7,l_w7] at zz)|(simp [go_sem] at zz));(try clear x_w7 f_w7);(try clear z_w7);have z_w7:=zz;clear zz;(try clear l_w7);obtain ⟨x_w7,f_w7,l_w7⟩:=bO z_w7;have zz:=hQ hbw19 (b:=w16.heap.size);(first|(simp [go_sem,z_w16,l_w16] at zz)|(simp [go_sem] at zz));(try clear x_w16 f_w16);(try clear z_w16);have z_w16:=zz;clear zz;(try clear l_w16);obtain ⟨x_w16,f_w16,l_w16⟩:=bO z_w16
    clear hbw19
    replace UL:=UL.below hC19
    replace GL:=GL.below hC19
    replace HL:=HL.below hC19
    go_wp2
    go_ret
    exact ⟨rfl,hB19⟩
  · intro l s wx hl hd hn hf0 K hK
    have hf:=Lib.hid hf0
    clear hf0
    have hB:=hf.out.1
    have z:=hpS z_w5 hB
    go_simp
    refine hK.out (upd s 45 (.agg (wvals x (.slice (some ⟨y1,0,none⟩) x.ch.cells.length x.ch.cells.length) (.slice (some ⟨y2,0,none⟩) x.ch.words.length x.ch.words.length) (.slice (some ⟨y3,0,none⟩) x.hands.length x.hands.length) (.slice (some ⟨y4,0,none⟩) x.deals.length x.deals.length)))) _ _ (by simp [upd_at] <;> rfl) ⟨hf.out.1,fun _=>rfl,fun h=>(hf.out.2.2.1 h),fun h=>(hf.out.2.2.2.1 h),fun h=>absurd h (by rw [show upd l 0 true 3=l 3 from rfl,hn 3 rfl];exact Bool.false_ne_true),fun h=>absurd h (by rw [show upd l 0 true 4=l 4 from rfl,hn 4 rfl];exact Bool.false_ne_true)⟩
  · intro l s wx hl hd hn hf0 K hK
    have hf:=Lib.hid hf0
    clear hf0
    have hB:=hf.out.1
    have z:=hpS z_w hB
    go_simp
    refine hK.out (upd s 46 (.agg (wvals x (.slice a x.ch.cells.length p1) (.slice b x.ch.words.length p2) (.slice d x.hands.length p3) (.slice e x.deals.length p4)))) _ _ (by simp [upd_at] <;> rfl) ⟨hf.out.1,fun h=>(hf.out.2.1 h),fun _=>rfl,fun h=>absurd h (by rw [show upd l 1 true 2=l 2 from rfl,hn 2 rfl];exact Bool.false_ne_true),fun h=>absurd h (by rw [show upd l 1 true 3=l 3 from rfl,hn 3 rfl];exact Bool.false_ne_true),fun h=>absurd h (by rw [show upd l 1 true 4=l 4 from rfl,hn 4 rfl];exact Bool.false_ne_true)⟩
  · intro l s wx hl hd hn hf0 K hK
    have hf:=Lib.hid hf0
    clear hf0
    have e1:=(hf.out.2.2.1 (hd 1 rfl))
    have hB:=hf.out.1
    go_simp
    go_at_call 6
    refine (toWorldB x a b d e p1 p2 p3 p4 _ (((H.out.below (bT hB9 hB))).more (bT hB9 hB).size) m).mono ?_
    rintro _ wy ⟨⟨g1,g2,g3,g4,rfl,G⟩,hE⟩
    refine hK.out (upd s 47 (.agg (wvals x (.slice (some ⟨g1,0,none⟩) x.ch.cells.length x.ch.cells.length) (.slice (some ⟨g2,0,none⟩) x.ch.words.length x.ch.words.length) (.slice (some ⟨g3,0,none⟩) x.hands.length x.hands.length) (.slice (some ⟨g4,0,none⟩) x.deals.length x.deals.length)))) _ _ (by simp [upd_at,e1] <;> rfl) ⟨bT hf.out.1 hE,fun h=>(hf.out.2.1 h),fun h=>(hf.out.2.2.1 h),fun _=>⟨g1,g2,g3,g4,rfl,MadeW.lo' G hB.size⟩,fun h=>absurd h (by rw [show upd l 2 true 3=l 3 from rfl,hn 3 rfl];exact Bool.false_ne_true),fun h=>absurd h (by rw [show upd l 2 true 4=l 4 from rfl,hn 4 rfl];exact Bool.false_ne_true)⟩
  · intro l s wx hl hd hn hf0 K hK
    have hf:=Lib.hid hf0
    clear hf0
    have e0:=(hf.out.2.1 (hd 0 rfl))
    have hB:=hf.out.1
    obtain ⟨g1,g2,g3,g4,e2,G⟩:=(hf.out.2.2.2.1 (hd 2 rfl))
    go_simp
    go_at_call 8
    refine (eqWorld_any x _ _ _ _ _ _ _ _ _ _ _ _ _ _ _ _ _ (X0.segAt hB) (MadeW.seg G) m).mono ?_
    rintro _ wy ⟨rfl,hE⟩
    refine hK.out (upd s 48 (.bool true)) _ _ (by simp [upd_at,e0,e2] <;> rfl) ⟨bT hf.out.1 hE,fun h=>(hf.out.2.1 h),fun h=>(hf.out.2.2.1 h),fun h=>(let ⟨g1,g2,g3,g4,e,R⟩:=(hf.out.2.2.2.1 h);⟨g1,g2,g3,g4,e,MadeW.belowS R hE⟩),fun _=>rfl,fun h=>absurd h (by rw [show upd l 3 true 4=l 4 from rfl,hn 4 rfl];exact Bool.false_ne_true)⟩
  · intro l s wx hl hd hn hf0 K hK
    have hf:=Lib.hid hf0
    clear hf0
    have e3:=(hf.out.2.2.2.2.1 (hd 3 rfl))
    have hB:=hf.out.1
    go_simp
    refine hK.out (upd s 49 (.bool false)) _ _ (by simp [upd_at,e3] <;> rfl) ⟨hf.out.1,fun h=>(hf.out.2.1 h),fun h=>(hf.out.2.2.1 h),fun h=>(hf.out.2.2.2.1 h),fun h=>(hf.out.2.2.2.2.1 h),fun _=>rfl⟩
end Go.Proofs.Ytmnpgkcdfielbaa
