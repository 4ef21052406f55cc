/-
  The reference model's functions of chapter 3; lists lie in memory and hold at most 2 ^ 40 elements.
  The reference model's telling of a word; lists lie in memory and hold at most 2 ^ 40 elements.
  The reference model's copy of a world: the same in new memory; lists lie in memory and hold at most 2 ^ 40 elements.
-/
import Derived.Test.YtmnpgkcdfielbaaP07
import Derived.Test.YtmnpgkcdfielbaaP08
import Derived.Test.YtmnpgkcdfielbaaP03
import Derived.Deep.AppendLies
set_option linter.unusedSimpArgs false
set_option linter.unusedVariables false
namespace Go.Proofs.Ytmnpgkcdfielbaa
open Go.RowKit
set_option maxHeartbeats 400000 in
theorem l3Has_any (c:Ch) (v:Int) (a b:Option Addr) (p q:Nat) (w:World) :
    Calls Try.prog 43 #[.agg #[.int .i64 c.cap,.int .i64 c.sent,.int .i64 c.got,.int .i64 c.fin,.slice a c.cells.length p,.slice b c.words.length q],.int .i64 v] w fun r w'=>r=.returned (.bool (hasW c v))∧Below w.heap.size w w':=by
  go_enter Try.func43,Try.ntmps43
  go_wp2_with (go_at_call 40;refine (l1In_any _ _ _ _).mono ?_;rintro _ _ ⟨rfl,rfl⟩)
  go_ret
  exact ⟨rfl,by exact zB⟩
theorem hasW_iff {c:Ch} {v:Int}:hasW c v=true↔1≤v∧v≤c.words.length:=by simp [hasW,inB]
end Go.Proofs.Ytmnpgkcdfielbaa
set_option linter.unusedSimpArgs false
set_option linter.unusedVariables false
namespace Go.Proofs.Ytmnpgkcdfielbaa
open Go.RowKit
theorem tellB_no1 {c:Ch} {v x:Int} (h:hasW c v=false):tellB c v x=false:=by simp [tellB,h]
theorem tellC_no {c:Ch} {v x:Int} (h:tellB c v x=false):tellC c v x=c:=by simp [tellC,h]
/-- A list of numbers that is not empty lies in a block of its own. -/
theorem OInts.open1 {w:World} {lo:Nat} {v:Value} {l:List Int} (h:OInts w lo v l) {i:Nat} (hi:i<l.length) :
    ∃ g cap,v=.slice (some ⟨g,0,none⟩) l.length cap∧lo≤g∧g<w.heap.size∧w.cell? ⟨g,i,none⟩=some (.int .i64 (l.getD i 0))∧∀ o,w.frozen? ⟨g,o,none⟩=false:=by
  have h2:=h
  rcases h.2 with ⟨_,h0⟩|⟨g,cap,cur,rfl,hl,hg,_⟩
  · omega
  · refine ⟨g,cap,rfl,hl,(Array.getElem?_eq_some_iff.1 hg).1,?_,fun o=>by simp [World.frozen?,hg]⟩
    have:=h2.cells (g:=g) rfl i (.int .i64 (l.getD i 0)) (by simp [ints,List.getD,hi])
    rw [← this];congr 1;by_cases e:i=0 <;> simp [Addr.add,e]
theorem OInts.set {w:World} {lo g cap:Nat} {l:List Int} (h:OInts w lo (.slice (some ⟨g,0,none⟩) l.length cap) l) {i:Nat} (hi:i<l.length) (x:Int) :
    OInts (w.setCell ⟨g,i,none⟩ (.int .i64 x)) lo (.slice (some ⟨g,0,none⟩) l.length cap) (l.set i x):=by
  have:=own_set_cell h i (by rw [ints_len];exact hi) (.int .i64 x)
  unfold OInts
  rw [ints_set,List.length_set]
  exact this
theorem own_ne' {w:World} {lo:Nat} {e:TypeId} {k n:Nat} {v:Value} {xs:List Value} (h:w.ownsRow lo e k v n xs) {b:Nat} (hb:w.heap.size≤b):v.ownBlock≠some b:=fun he=>by have:=(h.lt b he).2;omega
theorem OCells.ne {w:World} {lo lo':Nat} {v v':Value} {cs:List C3} {l:List Int} (h:OCells w lo v cs) (h':OInts w lo' v' l) (i:Nat) (hi:v.ownBlock=some i):v'.ownBlock≠some i:=by
  intro hi'
  rcases h.2 with ⟨rfl,_⟩|⟨g,cap,cur,rfl,_,hg,_⟩
  · cases hi
  rcases h'.2 with ⟨rfl,_⟩|⟨g',cap',cur',rfl,_,hg',_⟩
  · cases hi'
  simp [Value.ownBlock] at hi hi'
  subst hi hi'
  rw [hg] at hg'
  simp at hg'
theorem own_off {w:World} {lo lo':Nat} {v v':Value} {cs:List C3} {l:List Int} (h:OCells w lo v cs) (h':OInts w lo' v' l):v.ownBlock=none∨v.ownBlock≠v'.ownBlock:=by
  cases e:v.ownBlock with
  | none=>exact .inl rfl
  | some j=>exact .inr fun e2=>OCells.ne h h' j e e2.symm
set_option maxRecDepth 100000 in
set_option maxHeartbeats 1000000 in
theorem l3Told_any (c:Ch) (v x:Int) (a b:Option Addr) (p q:Nat) (w:World) (h1:Seg w w.heap.size a c.cells.length 3 (cellF c.cells)) (z1:a=none→p=0) (h2:Seg w w.heap.size b c.words.length 1 (intF c.words)) (z2:b=none→q=0) (m1:c.cells.length≤1099511627776) (m2:c.words.length≤1099511627776) :
    Calls Try.prog 17 #[.agg #[.int .i64 c.cap,.int .i64 c.sent,.int .i64 c.got,.int .i64 c.fin,.slice a c.cells.length p,.slice b c.words.length q],.int .i64 v,.int .i64 x] w fun r w' =>
      (∃ v1 v2,r=.returned (.tuple #[.agg #[.int .i64 c.cap,.int .i64 c.sent,.int .i64 c.got,.int .i64 c.fin,v1,v2],.bool (tellB c v x)])∧OCells w' w.heap.size v1 c.cells∧OInts w' w.heap.size v2 (tellC c v x).words)∧Below w.heap.size w w':=by
  have H1:=Lib.hid h1
  have H2:=Lib.hid h2
  have Z1:=Lib.hid z1
  have Z2:=Lib.hid z2
  clear h1 h2 z1 z2
  go_enter Try.func17,Try.ntmps17
  go_wp2_with fail;refine bHit w (by exact zB) fun bb=>?_;refine (l2Copy_any c a b p q _ ((H1.out.below bb).more bb.size) Z1.out ((H2.out.below bb).more bb.size) Z2.out m1 m2).mono ?_;rintro _ w1 ⟨⟨v1,v2,rfl,o1,o2⟩,hbw1⟩;have hCw1:Below w.heap.size w w1:=bT bb hbw1;have hsw1:=hbw1.size;(try simp at hsw1);have zz:=And.intro (fun o=>hbw1.cell (p:=⟨w.heap.size+1,o,none⟩) (by (try simp) <;> omega)) <| And.intro (fun o=>hbw1.frozen (p:=⟨w.heap.size+1,o,none⟩) (by (try simp) <;> omega)) <| And.intro (fun o=>hbw1.cell (p:=⟨w.heap.size,o,none⟩) (by (try simp) <;> omega)) <| fun o=>hbw1.frozen (p:=⟨w.heap.size,o,none⟩) (by (try simp) <;> omega);(try simp [go_sem] at zz);(try clear x_wp f_wp);(try clear x_w f_w);obtain ⟨x_wp,f_wp,x_w,f_w⟩:=zz;(try clear l_wp);have l_wp:w.heap.size+1<w1.heap.size:=(by omega);(try clear l_w);have l_w:w.heap.size<w1.heap.size:=(by omega);clear hbw1 bb
  try simp at o1 o2
  obtain ⟨a1,q1,rfl,_⟩:=o1.seg
  by_cases hh:hasW c v=true
  · obtain ⟨g1,g2⟩:=hasW_iff.1 hh
    obtain ⟨i,rfl⟩:∃ i:Nat,v=(i:Int)+1:=⟨(v - 1).toNat,by omega⟩
    have hi:i<c.words.length:=by omega
    obtain ⟨g,cap,rfl,hlo,hlt,hcell,hfr⟩:=o2.open1 hi
    obtain ⟨bb,bo,rfl,hb,hcell0⟩:∃ b' o,b=some ⟨b',o,none⟩∧b'<w.heap.size∧w.cell? ⟨b',o+i,none⟩=some (.int .i64 (c.words.getD i 0)):=by
      rcases H2.out with h0|⟨b',o',e,h1,h2⟩
      · omega
      · exact ⟨b',o',e,h1,by simpa [intF] using h2 i 0 hi (by omega)⟩
    have e:wordAt c ((i:Int)+1)=c.words.getD i 0:=by simp [wordAt]
    have HE:=Lib.hid e
    clear e
    generalize c.words.getD i 0=y at hcell hcell0 HE
    have hi0:(0:Int)≤(i:Int):=by omega
    have hi1:(i:Int)<(c.words.length:Int):=by omega
    have hcell1:=(hCw1.cell (p:=⟨bb,bo+i,none⟩) hb).trans hcell0
    go_wp2_with fail;refine bHit w (by exact zB) fun bb=>?_;refine bHit w1 (by exact zB) fun bk=>?_;refine (l3Has_any c _ a _ p q _).mono ?_;rintro _ w2 ⟨rfl,hbw2⟩;have hCw2:Below w.heap.size w w2:=bT bb hbw2;have hsw2:=hbw2.size;(try simp at hsw2);have zz:=And.intro (fun o=>hbw2.cell (p:=⟨w1.heap.size,o,none⟩) (by (try simp) <;> omega)) <| And.intro (fun o=>hbw2.frozen (p:=⟨w1.heap.size,o,none⟩) (by (try simp) <;> omega)) <| And.intro (fun o=>hbw2.cell (p:=⟨w.heap.size+1,o,none⟩) (by (try simp) <;> omega)) <| And.intro (fun o=>hbw2.frozen (p:=⟨w.heap.size+1,o,none⟩) (by (try simp) <;> omega)) <| And.intro (fun o=>hbw2.cell (p:=⟨w.heap.size,o,none⟩) (by (try simp) <;> omega)) <| fun o=>hbw2.frozen (p:=⟨w.heap.size,o,none⟩) (by (try simp) <;> omega);(first|simp [go_sem,x_wp,f_wp,x_w,f_w,l_w,l_wp] at zz|simp [go_sem,x_wp,x_w,l_w,l_wp] at zz|simp [go_sem] at zz|skip);(try clear x_w1 f_w1);(try clear x_wp f_wp);(try clear x_w f_w);obtain ⟨x_w1,f_w1,x_wp,f_wp,x_w,f_w⟩:=zz;(try clear l_w1);have l_w1:w1.heap.size<w2.heap.size:=(by omega);(try clear l_wp);have l_wp:w.heap.size+1<w2.heap.size:=(by omega);(try clear l_w);have l_w:w.heap.size<w2.heap.size:=(by omega);have hKw2:Below w1.heap.size w1 w2:=bT bk hbw2;clear hbw2 bb bk
    have p1:=own_below o1 hKw2
    have p2:=own_below o2 hKw2
    have hcell2:=(hKw2.cell (p:=⟨g,i,none⟩) hlt).trans hcell
    have hfr2:=fun o=>(hKw2.frozen (p:=⟨g,o,none⟩) hlt).trans (hfr o)
    have hcell3:=(hCw2.cell (p:=⟨bb,bo+i,none⟩) hb).trans hcell0
    have hny:w1.heap.size≠g:=by omega
    by_cases ht:tellB c ((i:Int)+1) x=true
    · have ht2:=ht
      unfold tellB at ht2
      rw [HE.out] at ht2
      simp [hh] at ht2
      obtain ⟨rfl,hin⟩:=ht2
      have HW:Hid ((tellC c ((i:Int)+1) x).words=c.words.set i x):=by unfold tellC;rw [if_pos ht];simp [Hid]
      have HT:=Lib.hid ht
      clear ht HE
      go_wp2_with (go_at_call 40;refine (l1In_any _ _ _ _).mono ?_;rintro _ _ ⟨rfl,rfl⟩)
      rw [HT.out,HW.out]
      refine bodyPost_ret (v:=.tuple #[.agg #[.int .i64 c.cap,.int .i64 c.sent,.int .i64 c.got,.int .i64 c.fin,.slice a1 c.cells.length q1,.slice (some ⟨g,0,none⟩) c.words.length cap],.bool true]) (by simp [results,Try.results17,go_sem, *]) rfl ⟨⟨_,_,rfl,own_lo (lo:=w.heap.size+1+1) ?_ (by omega),own_lo (lo:=w.heap.size+1+1) ?_ (by omega)⟩,by exact zB⟩
      · (repeat first|with_reducible exact p1|with_reducible refine oAl ?_ _|with_reducible refine oDr ?_|((with_reducible first|refine own_store ?_ ?_ _|refine own_box ?_ ?_);rotate_left;focus first|(refine own_ne o1 ?_;(try dsimp only);omega)|(refine own_ne' o1 ?_;(try dsimp only);omega)|exact fun h=>OCells.ne o1 o2 _ h rfl))
      · have P2:=OInts.set p2 hi x
        exact zO P2 o2
    · have e1:tellB c ((i:Int)+1) x=false:=by simpa using ht
      have HT:=Lib.hid e1
      have HW:=Lib.hid (tellC_no e1)
      unfold tellB at e1
      rw [HE.out] at e1
      simp [hh] at e1
      clear HE ht
      by_cases hy:y=0
      · subst hy
        have hin:=e1 rfl
        clear e1
        go_wp2_with (go_at_call 40;refine (l1In_any _ _ _ _).mono ?_;rintro _ _ ⟨rfl,rfl⟩)
        rw [HT.out,HW.out]
        refine bodyPost_ret (v:=.tuple #[.agg #[.int .i64 c.cap,.int .i64 c.sent,.int .i64 c.got,.int .i64 c.fin,.slice a1 c.cells.length q1,.slice (some ⟨g,0,none⟩) c.words.length cap],.bool false]) (by simp [results,Try.results17,go_sem, *]) rfl ⟨⟨_,_,rfl,own_lo (lo:=w.heap.size+1+1) ?_ (by omega),own_lo (lo:=w.heap.size+1+1) ?_ (by omega)⟩,by exact zB⟩
        · exact zO p1 o1
        · exact zO p2 o2
      · have hy2:(y != 0)=true:=by simpa using hy
        clear e1 hy
        go_wp2_with (go_at_call 40;refine (l1In_any _ _ _ _).mono ?_;rintro _ _ ⟨rfl,rfl⟩)
        rw [HT.out,HW.out]
        refine bodyPost_ret (v:=.tuple #[.agg #[.int .i64 c.cap,.int .i64 c.sent,.int .i64 c.got,.int .i64 c.fin,.slice a1 c.cells.length q1,.slice (some ⟨g,0,none⟩) c.words.length cap],.bool false]) (by simp [results,Try.results17,go_sem, *]) rfl ⟨⟨_,_,rfl,own_lo (lo:=w.heap.size+1+1) ?_ (by omega),own_lo (lo:=w.heap.size+1+1) ?_ (by omega)⟩,by exact zB⟩
        · exact zO p1 o1
        · exact zO p2 o2
  · have e1:=tellB_no1 (x:=x) (by simpa using hh)
    have HT:=Lib.hid e1
    have HW:=Lib.hid (tellC_no e1)
    clear e1
    obtain ⟨a2,q2,rfl,_⟩:=o2.seg
    go_wp2_with fail;refine bHit w (by exact zB) fun bb=>?_;refine bHit w1 (by exact zB) fun bk=>?_;refine (l3Has_any c _ a b p q _).mono ?_;rintro _ w2 ⟨rfl,hbw2⟩;have hCw2:Below w.heap.size w w2:=bT bb hbw2;have hsw2:=hbw2.size;(try simp at hsw2);have zz:=And.intro (fun o=>hbw2.cell (p:=⟨w1.heap.size,o,none⟩) (by (try simp) <;> omega)) <| And.intro (fun o=>hbw2.frozen (p:=⟨w1.heap.size,o,none⟩) (by (try simp) <;> omega)) <| And.intro (fun o=>hbw2.cell (p:=⟨w.heap.size+1,o,none⟩) (by (try simp) <;> omega)) <| And.intro (fun o=>hbw2.frozen (p:=⟨w.heap.size+1,o,none⟩) (by (try simp) <;> omega)) <| And.intro (fun o=>hbw2.cell (p:=⟨w.heap.size,o,none⟩) (by (try simp) <;> omega)) <| fun o=>hbw2.frozen (p:=⟨w.heap.size,o,none⟩) (by (try simp) <;> omega);(first|simp [go_sem,x_wp,f_wp,x_w,f_w,l_w,l_wp] at zz|simp [go_sem,x_wp,x_w,l_w,l_wp] at zz|simp [go_sem] at zz|skip);(try clear x_w1 f_w1);(try clear x_wp f_wp);(try clear x_w f_w);obtain ⟨x_w1,f_w1,x_wp,f_wp,x_w,f_w⟩:=zz;(try clear l_w1);have l_w1:w1.heap.size<w2.heap.size:=(by omega);(try clear l_wp);have l_wp:w.heap.size+1<w2.heap.size:=(by omega);(try clear l_w);have l_w:w.heap.size<w2.heap.size:=(by omega);have hKw2:Below w1.heap.size w1 w2:=bT bk hbw2;clear hbw2 bb bk
    have p1:=own_below o1 hKw2
    have p2:=own_below o2 hKw2
    go_wp2
    rw [HT.out,HW.out]
    refine bodyPost_ret (v:=.tuple #[.agg #[.int .i64 c.cap,.int .i64 c.sent,.int .i64 c.got,.int .i64 c.fin,.slice a1 c.cells.length q1,.slice a2 c.words.length q2],.bool false]) (by simp [results,Try.results17,go_sem, *]) rfl ⟨⟨_,_,rfl,own_lo (lo:=w.heap.size+1+1) ?_ (by omega),own_lo (lo:=w.heap.size+1+1) ?_ (by omega)⟩,by exact zB⟩
    · exact zO p1 o1
    · exact zO p2 o2
end Go.Proofs.Ytmnpgkcdfielbaa
set_option linter.unusedSimpArgs false
set_option linter.unusedVariables false
namespace Go.Proofs.Ytmnpgkcdfielbaa
open Go.RowKit
set_option linter.unusedSimpArgs false
/-- Lists of two kinds lie apart. -/
theorem own_off_ty {w:World} {lo lo':Nat} {e e':TypeId} {k k' n n':Nat} {v v':Value} {xs xs':List Value} (h:w.ownsRow lo e k v n xs) (h':w.ownsRow lo' e' k' v' n' xs') (hne:e≠e'):v.ownBlock=none∨v.ownBlock≠v'.ownBlock:=by
  rcases h.2 with ⟨rfl,_⟩|⟨g,cap,cur,rfl,_,hg,_⟩
  · exact .inl rfl
  · refine .inr fun e2=>?_
    rcases h'.2 with ⟨rfl,_⟩|⟨g',cap',cur',rfl,_,hg',_⟩
    · cases e2
    · simp [Value.ownBlock] at e2
      subst e2
      rw [hg] at hg'
      simp at hg'
      exact hne hg'.2
theorem own_through {w w1:World} {lo lo':Nat} {e e':TypeId} {k k' n n':Nat} {v v':Value} {xs xs':List Value} (h:w.ownsRow lo e k v n xs) (h':w.ownsRow lo' e' k' v' n' xs') (hne:e≠e') (g:w.grownBy w1 v'.ownBlock):w1.ownsRow lo e k v n xs:=h.kept g (own_off_ty h h' hne)
theorem gr_refl (w:World) (r:Option Nat):w.grownBy w r:=⟨rfl,rfl,rfl,Nat.le_refl _,fun _ _ _=>rfl⟩
theorem step_app {P:Program} {ops:Array Oper} {o:Oper} {a:Act} {K:Act→World→Prop} {Q:Exit→Act→World→Prop} {E:Prop} {w:World} (hgd:o.guard=none) (s x:Operand) (t:TypeId)
    (ho:o.op=.call { callee:=.builtin .append,args:=#[s,x],argTypes:=#[t,t] })
    (base:Nat) (e:TypeId) (i:TypeInfo) (z:Value) (size bytes:Nat) (ht:P.underlying t=some (.slice e)) (hi:P.info? e=some i) (hz:i.zero=some z)
    (hsize:i.size=size) (hby:i.bytes=bytes) (hzs:z.cells.size=size) (hsz:0<size)
    (v:Value) (hs:a.eval s=v) (hown:w.ownsRow base e size v 0 [])
    (b:Option Addr) (m c:Nat) (news:List Value) (hx:a.eval x=.slice b m c) (hz0:b=none→m=0∧c=0) (hl:news.length=m*size) (hnews:∀ ad,b=some ad→∀ j u,news[j]?=some u→w.cell? (ad.add j)=some u) (h1:∀ u ∈ news,u.oneCell'=true)
    (h63:m≤maxLen) (hbytes:m*bytes≤140737488355328) (hbase:base≤w.heap.size)
    (h:∀ v' w',w.ownsRow base e size v 0 []→w'.ownsRow base e size v' m news→w.grownBy w' v.ownBlock→K (a.put o.dst v') w') :
    if Region.wanted o (yielded ops a.tmps)=true then Oper.wp P o a w K Q else E:=by
  have hw:Region.wanted o (yielded ops a.tmps)=true:=by simp [Region.wanted,hgd]
  rw [if_pos hw]
  rcases b with _|ad
  · obtain ⟨rfl,rfl⟩:=hz0 rfl
    have hr:=run_append_owned_none (P:=P) (w:=w) base t o.type e i size ht hi v 0 [] hown
    obtain rfl:news=[]:=List.eq_nil_of_length_eq_zero (by simpa using hl)
    unfold Oper.wp execOp
    simp only [ho,resolve,invoke,builtin,Sem.run_bind,Sem.run_pure,Result.andThen_ok,List.map_toArray,List.map_cons,List.map_nil,hs,hx,hr]
    exact h v w hown hown (gr_refl _ _)
  · obtain ⟨v',w',hr,r1,r2,_⟩:=run_append_own (P:=P) w base t o.type e i z size bytes ht hi hz hsize hby hzs hsz v 0 [] hown ad m c news hl (hnews ad rfl) h1 (by omega) (by simpa using hbytes) hbase
    unfold Oper.wp execOp
    simp only [ho,resolve,invoke,builtin,Sem.run_bind,Sem.run_pure,Result.andThen_ok,List.map_toArray,List.map_cons,List.map_nil,hs,hx,hr]
    exact h v' w' hown (by simpa using r1) r2
theorem infoHandE:(Try.prog.info? 53).map (fun i=>(i.zero,i.size,i.bytes))=some (some (.agg (hvals Ha.zero)),14,112):=by kernel_rfl
theorem infoDealE:(Try.prog.info? 74).map (fun i=>(i.zero,i.size,i.bytes))=some (some (.agg (dvals De.zero)),7,56):=by kernel_rfl
theorem Seg.news {w:World} {B n k:Nat} {b:Option Addr} {f:Nat→Nat→Value} {xs:List Value} (h:Seg w B b n k f) (hl:xs.length=n*k) (hg:∀ i j,i<n→j<k→xs[i*k+j]?=some (f i j)):∀ ad,b=some ad→∀ j u,xs[j]?=some u→w.cell? (ad.add j)=some u:=by
  intro ad e j u hu
  have hj:j<n*k:=by rw [← hl];exact (List.getElem?_eq_some_iff.1 hu).1
  have hk:0<k:=Nat.pos_of_ne_zero fun e=>by subst e;simp at hj
  rcases h with h0|⟨b',o',e2,_,hc⟩
  · subst h0;simp at hj
  · subst e
    simp at e2
    subst e2
    have e3:j=j / k*k+j % k:=by have:=Nat.div_add_mod j k;rw [Nat.mul_comm] at this;omega
    have hi:j / k<n:=Nat.div_lt_of_lt_mul (by rw [Nat.mul_comm];exact hj)
    have hm:j % k<k:=Nat.mod_lt _ hk
    have g1:=hg (j / k) (j % k) hi hm
    rw [← e3] at g1
    rw [g1] at hu
    simp at hu
    rw [← hu,← hc (j / k) (j % k) hi hm]
    congr 1
    by_cases e:j=0
    · subst e;simp [Addr.add]
    · simp [Addr.add,e];omega
set_option maxRecDepth 100000 in
set_option maxHeartbeats 4000000 in
theorem l11Copy_any (x:Wo) (a b d e:Option Addr) (p q r s:Nat) (w:World) (h1:Seg w w.heap.size a x.ch.cells.length 3 (cellF x.ch.cells)) (z1:a=none→p=0) (h2:Seg w w.heap.size b x.ch.words.length 1 (intF x.ch.words)) (z2:b=none→q=0) (h3:Seg w w.heap.size d x.hands.length 14 (handF x.hands)) (z3:d=none→x.hands.length=0∧r=0) (h4:Seg w w.heap.size e x.deals.length 7 (dealF x.deals)) (z4:e=none→x.deals.length=0∧s=0) (m1:x.ch.cells.length≤1099511627776) (m2:x.ch.words.length≤1099511627776) (m3:x.hands.length≤1099511627776) (m4:x.deals.length≤1099511627776) :
    Calls Try.prog 16 #[.agg #[.int .i64 x.ch.cap,.int .i64 x.ch.sent,.int .i64 x.ch.got,.int .i64 x.ch.fin,.slice a x.ch.cells.length p,.slice b x.ch.words.length q,.slice d x.hands.length r,.slice e x.deals.length s,.int .i64 x.now]] w fun r w' =>
      (∃ v1 v2 v3 v4,r=.returned (.agg #[.int .i64 x.ch.cap,.int .i64 x.ch.sent,.int .i64 x.ch.got,.int .i64 x.ch.fin,v1,v2,v3,v4,.int .i64 x.now])∧OCells w' w.heap.size v1 x.ch.cells∧OInts w' w.heap.size v2 x.ch.words∧OHands w' w.heap.size v3 x.hands∧ODeals w' w.heap.size v4 x.deals)∧Below w.heap.size w w':=by
  obtain ⟨i5,hi5,hz5,hsz5,hby5⟩:=info_parts infoHandE
  obtain ⟨i6,hi6,hz6,hsz6,hby6⟩:=info_parts infoDealE
  have H1:=Lib.hid h1
  have H2:=Lib.hid h2
  have H3:=Lib.hid h3
  have H4:=Lib.hid h4
  have Z1:=Lib.hid z1
  have Z2:=Lib.hid z2
  have Zn5:=Lib.hid z3
  have Zn6:=Lib.hid z4
  clear h1 h2 h3 h4 z1 z2 z3 z4
  go_enter Try.func16,Try.ntmps16
  go_wp2_with fail
  go_region_held3 (fun w'=>∀ o,w'.cell? ⟨w.heap.size,o,none⟩=#[Value.int .i64 x.ch.cap,.int .i64 x.ch.sent,.int .i64 x.ch.got,.int .i64 x.ch.fin,.slice a x.ch.cells.length p,.slice b x.ch.words.length q,.slice d x.hands.length r,.slice e x.deals.length s,.int .i64 x.now][o]?)
    (first|(intro o;simp [*,go_sem]))
    (first|(go_at_call 42;refine (l2Copy_any x.ch a b p q _ ((H1.out.below (by exact zB)).more (by (try simp) <;> omega)) Z1.out ((H2.out.below (by exact zB)).more (by (try simp) <;> omega)) Z2.out m1 m2).mono ?_;rintro _ w4 ⟨⟨v1,v2,rfl,o1,o2⟩,hb4⟩;have hC4:Below w.heap.size w w4:=bT (by exact zB) hb4;have hs4:=hb4.size;(try simp at hs4);have x4:=fun o=>hb4.cell (p:=⟨w.heap.size,o,none⟩) (by ((try simp) <;> (try omega)));have y4:=fun o=>hb4.cell (p:=⟨w.heap.size+1,o,none⟩) (by ((try simp) <;> (try omega)));have yf4:=fun o=>hb4.frozen (p:=⟨w.heap.size+1,o,none⟩) (by ((try simp) <;> (try omega)));(try simp [go_sem] at x4);(try simp [go_sem] at y4);(try simp [go_sem] at yf4);have l4:w.heap.size<w4.heap.size:=(by omega);have l4b:w.heap.size+1<w4.heap.size:=(by omega);replace o1:=own_lo (lo':=w.heap.size+1+1) o1 (by ((try simp) <;> (try omega)));replace o2:=own_lo (lo':=w.heap.size+1+1) o2 (by ((try simp) <;> (try omega)));have o10:=o1;have o20:=o2;obtain ⟨va,vc,rfl,_⟩:=OCells.seg o1;obtain ⟨vb,vd,rfl,_⟩:=OInts.seg o2)|(refine step_app (by rfl) _ _ _ (by rfl) (w.heap.size+1+1) 53 i5 _ 14 112 Try.underlying34 hi5 hz5 hsz5 hby5 rfl (by decide) (.slice (some ⟨_,0,none⟩) 0 0) (by rfl) ?_ d x.hands.length r (flatH x.hands) (by rfl) Zn5.out (flatH_len _) (Seg.news (H3.out.below (by exact zB)) (flatH_len _) (flatH_get _)) (flatH_one _) (by unfold maxLen;omega) (by omega) (by ((try simp) <;> (try omega))) ?_;(focus ((repeat (first|with_reducible refine World.ownsRow.drew ?_|((with_reducible refine own_made_at _ _ _ _ _ ?_ ?_) <;> (first|(simp;done)|(simp;omega)|omega))|with_reducible refine World.ownsRow.alloc ?_ _|with_reducible refine own_below ?_ hb4))));intro v5 w5 f5 o5 g5;have hC5:Below w.heap.size w w5:=bOwn (by exact zB) g5 (by ((try simp) <;> (try omega))) (fun k hk=>by have:=(f5.lt k hk).1;omega);have hs5:=g5.size;(try simp at hs5);have x5:=fun o=>grCell g5 (b:=w.heap.size) (by ((try simp) <;> (try omega))) (fun e=>own_ne f5 (by omega) e.symm) o;have y5:=fun o=>grCell g5 (b:=w.heap.size+1) (by ((try simp) <;> (try omega))) (fun e=>own_ne f5 (by omega) e.symm) o;have yf5:=fun o=>grFroz g5 (b:=w.heap.size+1) (by ((try simp) <;> (try omega))) (fun e=>own_ne f5 (by omega) e.symm) o;(try simp [go_sem,x4,l4,l4b] at x5);(try simp [go_sem,y4,l4,l4b] at y5);(try simp [go_sem,yf4,l4,l4b] at yf5);have l5:w.heap.size<w5.heap.size:=(by omega);have l5b:w.heap.size+1<w5.heap.size:=(by omega);have o50:=o5;obtain ⟨vx5,vy5,rfl,_⟩:=OHands.seg o5)|(refine step_app (by rfl) _ _ _ (by rfl) (w.heap.size+1+1) 74 i6 _ 7 56 Try.underlying35 hi6 hz6 hsz6 hby6 rfl (by decide) (.slice (some ⟨_,0,none⟩) 0 0) (by rfl) ?_ e x.deals.length s (flatD x.deals) (by rfl) Zn6.out (flatD_len _) (Seg.news (H4.out.below (by exact zB)) (flatD_len _) (flatD_get _)) (flatD_one _) (by unfold maxLen;omega) (by omega) (by ((try simp) <;> (try omega))) ?_;(focus ((repeat (first|with_reducible refine World.ownsRow.drew ?_|((with_reducible refine own_made_at _ _ _ _ _ ?_ ?_) <;> (first|(simp;done)|(simp;omega)|omega))|with_reducible refine World.ownsRow.alloc ?_ _|with_reducible refine own_below ?_ hb4|with_reducible refine own_through ?_ f5 (by decide) g5))));intro v6 w6 f6 o6 g6;have hC6:Below w.heap.size w w6:=bOwn (by exact zB) g6 (by ((try simp) <;> (try omega))) (fun k hk=>by have:=(f6.lt k hk).1;omega);have hs6:=g6.size;(try simp at hs6);have x6:=fun o=>grCell g6 (b:=w.heap.size) (by ((try simp) <;> (try omega))) (fun e=>own_ne f6 (by omega) e.symm) o;have y6:=fun o=>grCell g6 (b:=w.heap.size+1) (by ((try simp) <;> (try omega))) (fun e=>own_ne f6 (by omega) e.symm) o;have yf6:=fun o=>grFroz g6 (b:=w.heap.size+1) (by ((try simp) <;> (try omega))) (fun e=>own_ne f6 (by omega) e.symm) o;(try simp [go_sem,x5,l5,l5b] at x6);(try simp [go_sem,y5,l5,l5b] at y6);(try simp [go_sem,yf5,l5,l5b] at yf6);have l6:w.heap.size<w6.heap.size:=(by omega);have l6b:w.heap.size+1<w6.heap.size:=(by omega);have o60:=o6;obtain ⟨vx6,vy6,rfl,_⟩:=ODeals.seg o6))
  all_goals go_wp2
  all_goals (refine bodyPost_ret (v:=.agg #[.int .i64 x.ch.cap,.int .i64 x.ch.sent,.int .i64 x.ch.got,.int .i64 x.ch.fin,.slice va x.ch.cells.length vc,.slice vb x.ch.words.length vd,.slice vx5 x.hands.length vy5,.slice vx6 x.deals.length vy6,.int .i64 x.now]) (by simp [results,Try.results16,go_sem, *]) rfl ⟨⟨_,_,_,_,rfl,own_lo (lo:=w.heap.size+1+1) ?_ (by omega),own_lo (lo:=w.heap.size+1+1) ?_ (by omega),own_lo (lo:=w.heap.size+1+1) ?_ (by omega),own_lo (lo:=w.heap.size+1+1) ?_ (by omega)⟩,by exact zB⟩)
  all_goals first|((repeat (first|with_reducible exact o1|with_reducible refine World.ownsRow.drew ?_|with_reducible refine World.ownsRow.alloc ?_ _|((with_reducible refine own_store ?_ ?_ _);rotate_left;(focus (refine own_ne o10 ?_;(try dsimp only);omega)))|with_reducible refine own_through ?_ f6 (by decide) g6|with_reducible refine own_through ?_ f5 (by decide) g5));done)|skip
  all_goals first|((repeat (first|with_reducible exact o2|with_reducible refine World.ownsRow.drew ?_|with_reducible refine World.ownsRow.alloc ?_ _|((with_reducible refine own_store ?_ ?_ _);rotate_left;(focus (refine own_ne o20 ?_;(try dsimp only);omega)))|with_reducible refine own_through ?_ f6 (by decide) g6|with_reducible refine own_through ?_ f5 (by decide) g5));done)|skip
  all_goals first|((repeat (first|with_reducible exact o5|with_reducible refine World.ownsRow.drew ?_|with_reducible refine World.ownsRow.alloc ?_ _|((with_reducible refine own_store ?_ ?_ _);rotate_left;(focus (refine own_ne o50 ?_;(try dsimp only);omega)))|with_reducible refine own_through ?_ f6 (by decide) g6|with_reducible refine own_through ?_ f5 (by decide) g5));done)|skip
  all_goals first|((repeat (first|with_reducible exact o6|with_reducible refine World.ownsRow.drew ?_|with_reducible refine World.ownsRow.alloc ?_ _|((with_reducible refine own_store ?_ ?_ _);rotate_left;(focus (refine own_ne o60 ?_;(try dsimp only);omega)))|with_reducible refine own_through ?_ f6 (by decide) g6|with_reducible refine own_through ?_ f5 (by decide) g5));done)|skip
end Go.Proofs.Ytmnpgkcdfielbaa
