/-
  The reference model's calling, on hands that are kept whole; no condition.
  The reference model's small functions of chapter 6, on hands and channels that are kept whole; lists lie in memory.
  Worlds whose lists are the call's own; no condition.
-/
import Derived.Test.YtmnpgkcdfielbaaP08
import Derived.BigRegion
import Derived.Test.YtmnpgkcdfielbaaP05
import Derived.Test.YtmnpgkcdfielbaaP09
set_option linter.unusedSimpArgs false
set_option linter.unusedVariables false
namespace Go.Proofs.Ytmnpgkcdfielbaa
open Go.RowKit
set_option linter.unusedSimpArgs false
attribute [local go_sem ↓] zeroHand toLHand toVHand storeHand storeHandC
end Go.Proofs.Ytmnpgkcdfielbaa
set_option linter.unusedSimpArgs false
set_option linter.unusedVariables false
namespace Go.Proofs.Ytmnpgkcdfielbaa
open Go.RowKit
set_option linter.unusedSimpArgs false
attribute [local simp] bx_size
attribute [local go_sem ↓] zeroHand zeroChan toLHand toLChan toVHand toVChan storeHand storeChan storeHandC storeChanC /- Elder contracts, said of channels kept whole. -/
/-- The list is the old one, or has been made since. -/
def Fresh (w:World) (v v':Value):Prop:=∀ j,v'.ownBlock=some j→v.ownBlock=some j∨w.heap.size≤j
/-- It lies apart from what the caller has made. -/
theorem Fresh.off {w w0:World} {v v':Value} (h:Fresh w v v') (hv:∀ j,v.ownBlock=some j→j<w0.heap.size) {b:Nat} (h1:w0.heap.size≤b) (h2:b<w.heap.size):v'.ownBlock≠some b:=fun e=>by
  rcases h b e with h|h
  · have:=hv b h;omega
  · omega
end Go.Proofs.Ytmnpgkcdfielbaa
set_option linter.unusedSimpArgs false
set_option linter.unusedVariables false
namespace Go.Proofs.Ytmnpgkcdfielbaa
open Go.RowKit
set_option linter.unusedSimpArgs false
/-- The lists of a world, of the call's own. -/
def WOwn (w':World) (lo:Nat) (v1 v2 v3 v4:Value) (x:Wo):Prop:=OCells w' lo v1 x.ch.cells∧OInts w' lo v2 x.ch.words∧OHands w' lo v3 x.hands∧ODeals w' lo v4 x.deals
/-- A world and one word more are answered. -/
def WordR (w w':World) (x:Wo) (t:Value) (r:Ending):Prop:=(∃ v1 v2 v3 v4,r=.returned (.tuple #[.agg #[.int .i64 x.ch.cap,.int .i64 x.ch.sent,.int .i64 x.ch.got,.int .i64 x.ch.fin,v1,v2,v3,v4,.int .i64 x.now],t])∧WOwn w' w.heap.size v1 v2 v3 v4 x)∧Below w.heap.size w w'
theorem wown_zero (w':World) (lo:Nat):WOwn w' lo (.slice none 0 0) (.slice none 0 0) (.slice none 0 0) (.slice none 0 0) Wo.zero:=⟨World.ownsRow_nil _ _ _ _,World.ownsRow_nil _ _ _ _,World.ownsRow_nil _ _ _ _,World.ownsRow_nil _ _ _ _⟩
/-- Storing a hand whole, as one word. -/
def SHand (x v:Value):Sem Unit:=Instr.storeAt 53 x v
theorem toSHand (x v:Value):Instr.storeAt 53 x v=SHand x v:=by unfold SHand;simp
theorem runSHand {w:World} {b:Nat} (x:Ha) (h:okO 14 (hp w b)=true):(SHand (.pointer (some ⟨b,0,none⟩)) (.agg (hvals x))).run Try.prog w=.ok () (setBox w b (hvals x)):=storeHand x h
/-- A hand is laid into a list. -/
def setElem (w:World) (b o:Nat) (x:Ha):World :=
  (((((((((((((w.setCell ⟨b,o+0,none⟩ (.int .i64 x.pos)).setCell ⟨b,o+1,none⟩ (.int .i64 x.code)).setCell ⟨b,o+2,none⟩ (.int .i64 x.elem)).setCell ⟨b,o+3,none⟩ (.int .i64 x.cell)).setCell ⟨b,o+4,none⟩ (.int .i64 x.seen)).setCell ⟨b,o+5,none⟩ (.int .i64 x.wait)).setCell ⟨b,o+6,none⟩ (.int .i64 x.fin)).setCell ⟨b,o+7,none⟩ (.int .i64 x.come)).setCell ⟨b,o+8,none⟩ (.int .i64 x.grow)).setCell ⟨b,o+9,none⟩ (.int .i64 x.mine)).setCell ⟨b,o+10,none⟩ (.int .i64 x.nxt)).setCell ⟨b,o+11,none⟩ (.int .i64 x.beg)).setCell ⟨b,o+12,none⟩ (.int .i64 x.reply)).setCell ⟨b,o+13,none⟩ (.int .i64 x.out)
set_option maxRecDepth 100000 in
set_option maxHeartbeats 4000000 in
theorem stHandE {w:World} {b o:Nat} (x:Ha) (h:∀ j,j<14→∃ v,w.cell? ⟨b,o+j,none⟩=some v) (hf:∀ j,w.frozen? ⟨b,j,none⟩=false):(SHand (.pointer (some ⟨b,o,none⟩)) (.agg (hvals x))).run Try.prog w=.ok () (setElem w b o x):=by
  obtain ⟨u0,h0⟩:=h 0 (by omega)
  obtain ⟨u1,h1⟩:=h 1 (by omega)
  obtain ⟨u2,h2⟩:=h 2 (by omega)
  obtain ⟨u3,h3⟩:=h 3 (by omega)
  obtain ⟨u4,h4⟩:=h 4 (by omega)
  obtain ⟨u5,h5⟩:=h 5 (by omega)
  obtain ⟨u6,h6⟩:=h 6 (by omega)
  obtain ⟨u7,h7⟩:=h 7 (by omega)
  obtain ⟨u8,h8⟩:=h 8 (by omega)
  obtain ⟨u9,h9⟩:=h 9 (by omega)
  obtain ⟨u10,h10⟩:=h 10 (by omega)
  obtain ⟨u11,h11⟩:=h 11 (by omega)
  obtain ⟨u12,h12⟩:=h 12 (by omega)
  obtain ⟨u13,h13⟩:=h 13 (by omega)
  simp only [Nat.add_zero] at h0
  simp [SHand,hvals,go_sem,setElem, *]
theorem setElem_gr (w:World) (b o:Nat) (x:Ha):w.grownBy (setElem w b o x) (some b):=by
  unfold setElem
  repeat (first|with_reducible exact gR _ _|with_reducible refine gS ?_ (.inl rfl))
theorem setElem_size (w:World) (b o:Nat) (x:Ha):(setElem w b o x).heap.size=w.heap.size:=by simp [setElem]
theorem flatH_set:∀ (hs:List Ha) (i:Nat) (x:Ha),i<hs.length →
    flatH (hs.set i x)=(((((((((((((((flatH hs).set (i*14+0) (.int .i64 x.pos)).set (i*14+1) (.int .i64 x.code)).set (i*14+2) (.int .i64 x.elem)).set (i*14+3) (.int .i64 x.cell)).set (i*14+4) (.int .i64 x.seen)).set (i*14+5) (.int .i64 x.wait)).set (i*14+6) (.int .i64 x.fin)).set (i*14+7) (.int .i64 x.come)).set (i*14+8) (.int .i64 x.grow)).set (i*14+9) (.int .i64 x.mine)).set (i*14+10) (.int .i64 x.nxt)).set (i*14+11) (.int .i64 x.beg)).set (i*14+12) (.int .i64 x.reply)).set (i*14+13) (.int .i64 x.out)):=by
  intro hs i x hi
  apply List.ext_getElem?
  intro n
  by_cases hn:n<hs.length*14
  · have e:n=n / 14*14+n % 14:=by omega
    have h1:=flatH_get (hs.set i x) (n / 14) (n % 14) (by simp;omega) (by omega)
    have h2:=flatH_get hs (n / 14) (n % 14) (by omega) (by omega)
    rw [← e] at h1 h2
    rw [h1]
    by_cases hq:n / 14=i
    · subst hq
      have hr:n % 14=0∨n % 14=1∨n % 14=2∨n % 14=3∨n % 14=4∨n % 14=5∨n % 14=6∨n % 14=7∨n % 14=8∨n % 14=9∨n % 14=10∨n % 14=11∨n % 14=12∨n % 14=13:=by omega
      have hl:=flatH_len hs
      rcases hr with hr|hr|hr|hr|hr|hr|hr|hr|hr|hr|hr|hr|hr|hr
      all_goals (rw [hr] at e ⊢;simp only [List.getElem?_set,List.length_set];simp (disch:=omega) only [if_neg,if_pos,handF,List.getD_eq_getElem?_getD,List.getElem?_set,hvals,Array.getD];simp [hi,hl,hvals,handF,Array.getD])
    · simp only [List.getElem?_set,List.length_set]
      simp (disch:=omega) only [if_neg]
      rw [h2]
      simp [handF,List.getD,List.getElem?_set,Ne.symm hq]
  · rw [List.getElem?_eq_none (by rw [flatH_len];simp;omega),List.getElem?_eq_none (by simp [flatH_len];omega)]
theorem OHands.open1 {w:World} {lo:Nat} {v:Value} {hs:List Ha} (h:OHands w lo v hs) {i:Nat} (hi:i<hs.length) :
    ∃ g cap,v=.slice (some ⟨g,0,none⟩) hs.length cap∧lo≤g∧g<w.heap.size∧(∀ j,j<14→w.cell? ⟨g,i*14+j,none⟩=some ((hvals (hs.getD i Ha.zero)).getD j (.int .i64 0)))∧∀ o,w.frozen? ⟨g,o,none⟩=false:=by
  have h2:=h
  rcases h.2 with ⟨_,h0⟩|⟨g,cap,cur,rfl,hl,hg,_⟩
  · omega
  · refine ⟨g,cap,rfl,hl,(Array.getElem?_eq_some_iff.1 hg).1,fun j hj=>?_,fun o=>by simp [World.frozen?,hg]⟩
    have:=h2.cells (g:=g) rfl (i*14+j) _ (flatH_get hs i j hi hj)
    rw [show (hvals (hs.getD i Ha.zero)).getD j (.int .i64 0)=handF hs i j from rfl,← this]
    congr 1
    by_cases e:i*14+j=0 <;> simp [Addr.add,e] <;> omega
theorem OHands.set {w:World} {lo g cap:Nat} {hs:List Ha} (h:OHands w lo (.slice (some ⟨g,0,none⟩) hs.length cap) hs) {i:Nat} (hi:i<hs.length) (x:Ha) :
    OHands (setElem w g (i*14) x) lo (.slice (some ⟨g,0,none⟩) hs.length cap) (hs.set i x):=by
  have hl:=flatH_len hs
  unfold OHands setElem
  rw [flatH_set hs i x hi,List.length_set]
  iterate 14 (refine own_set_cell ?_ _ (by (try simp only [List.length_set]);omega) _)
  exact h
end Go.Proofs.Ytmnpgkcdfielbaa
