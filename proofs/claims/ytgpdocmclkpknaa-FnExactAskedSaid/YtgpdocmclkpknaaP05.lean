/-
  The reference model's functions of chapter 3; lists lie in memory and hold at most 2 ^ 40 elements.
  The reference model's telling of a word; lists lie in memory and hold at most 2 ^ 40 elements.
  The reference model's copy of a world: the same in new memory; lists lie in memory and hold at most 2 ^ 40 elements.
  The reference model's calling, on hands that are kept whole; no condition.
  The reference model's small functions of chapter 6, on hands and channels that are kept whole; lists lie in memory.
  Worlds whose lists are the call's own; no condition.
-/
import Derived.Test.YtgpdocmclkpknaaP04
import Derived.Test.YtgpdocmclkpknaaP02
import Derived.Deep.AppendLies
import Derived.BigRegion
import Derived.Test.YtgpdocmclkpknaaP03
set_option linter.unusedSimpArgs false
set_option linter.unusedVariables false
namespace Go.Proofs.Ytgpdocmclkpknaa
open Go.RowKit
end Go.Proofs.Ytgpdocmclkpknaa
set_option linter.unusedSimpArgs false
set_option linter.unusedVariables false
namespace Go.Proofs.Ytgpdocmclkpknaa
open Go.RowKit
/-- A list of numbers that is not empty lies in a block of its own. -/
theorem OInts.open1 {w:World} {lo:Nat} {v:Value} {l:List Int} (h:OInts w lo v l) {i:Nat} (hi:i<l.length) :
    ∃ g cap,v=.slice (some ⟨g,0,none⟩) l.length cap∧lo≤g∧g<w.heap.size∧w.cell? ⟨g,i,none⟩=some (.int .i64 (l.getD i 0))∧∀ o,w.frozen? ⟨g,o,none⟩=false:=by
  have h2:=h
  rcases h.2 with ⟨_,h0⟩|⟨g,cap,cur,rfl,hl,hg,_⟩
  · omega
  · refine ⟨g,cap,rfl,hl,(Array.getElem?_eq_some_iff.1 hg).1,?_,fun o=>by simp [World.frozen?,hg]⟩
    have:=h2.cells (g:=g) rfl i (.int .i64 (l.getD i 0)) (by simp [ints,List.getD,hi])
    rw [← this];congr 1;by_cases e:i=0 <;> simp [Addr.add,e]
theorem OInts.set {w:World} {lo g cap:Nat} {l:List Int} (h:OInts w lo (.slice (some ⟨g,0,none⟩) l.length cap) l) {i:Nat} (hi:i<l.length) (x:Int) :
    OInts (w.setCell ⟨g,i,none⟩ (.int .i64 x)) lo (.slice (some ⟨g,0,none⟩) l.length cap) (l.set i x):=by
  have:=own_set_cell h i (by rw [ints_len];exact hi) (.int .i64 x)
  unfold OInts
  rw [ints_set,List.length_set]
  exact this
theorem own_ne' {w:World} {lo:Nat} {e:TypeId} {k n:Nat} {v:Value} {xs:List Value} (h:w.ownsRow lo e k v n xs) {b:Nat} (hb:w.heap.size≤b):v.ownBlock≠some b:=fun he=>by have:=(h.lt b he).2;omega
end Go.Proofs.Ytgpdocmclkpknaa
set_option linter.unusedSimpArgs false
set_option linter.unusedVariables false
namespace Go.Proofs.Ytgpdocmclkpknaa
open Go.RowKit
set_option linter.unusedSimpArgs false
/-- Lists of two kinds lie apart. -/
theorem own_off_ty {w:World} {lo lo':Nat} {e e':TypeId} {k k' n n':Nat} {v v':Value} {xs xs':List Value} (h:w.ownsRow lo e k v n xs) (h':w.ownsRow lo' e' k' v' n' xs') (hne:e≠e'):v.ownBlock=none∨v.ownBlock≠v'.ownBlock:=by
  rcases h.2 with ⟨rfl,_⟩|⟨g,cap,cur,rfl,_,hg,_⟩
  · exact .inl rfl
  · refine .inr fun e2=>?_
    rcases h'.2 with ⟨rfl,_⟩|⟨g',cap',cur',rfl,_,hg',_⟩
    · cases e2
    · simp [Value.ownBlock] at e2
      subst e2
      rw [hg] at hg'
      simp at hg'
      exact hne hg'.2
theorem own_through {w w1:World} {lo lo':Nat} {e e':TypeId} {k k' n n':Nat} {v v':Value} {xs xs':List Value} (h:w.ownsRow lo e k v n xs) (h':w.ownsRow lo' e' k' v' n' xs') (hne:e≠e') (g:w.grownBy w1 v'.ownBlock):w1.ownsRow lo e k v n xs:=h.kept g (own_off_ty h h' hne)
theorem gr_refl (w:World) (r:Option Nat):w.grownBy w r:=⟨rfl,rfl,rfl,Nat.le_refl _,fun _ _ _=>rfl⟩
theorem step_app {P:Program} {ops:Array Oper} {o:Oper} {a:Act} {K:Act→World→Prop} {Q:Exit→Act→World→Prop} {E:Prop} {w:World} (hgd:o.guard=none) (s x:Operand) (t:TypeId)
    (ho:o.op=.call { callee:=.builtin .append,args:=#[s,x],argTypes:=#[t,t] })
    (base:Nat) (e:TypeId) (i:TypeInfo) (z:Value) (size bytes:Nat) (ht:P.underlying t=some (.slice e)) (hi:P.info? e=some i) (hz:i.zero=some z)
    (hsize:i.size=size) (hby:i.bytes=bytes) (hzs:z.cells.size=size) (hsz:0<size)
    (v:Value) (hs:a.eval s=v) (hown:w.ownsRow base e size v 0 [])
    (b:Option Addr) (m c:Nat) (news:List Value) (hx:a.eval x=.slice b m c) (hz0:b=none→m=0∧c=0) (hl:news.length=m*size) (hnews:∀ ad,b=some ad→∀ j u,news[j]?=some u→w.cell? (ad.add j)=some u) (h1:∀ u ∈ news,u.oneCell'=true)
    (h63:m≤maxLen) (hbytes:m*bytes≤140737488355328) (hbase:base≤w.heap.size)
    (h:∀ v' w',w.ownsRow base e size v 0 []→w'.ownsRow base e size v' m news→w.grownBy w' v.ownBlock→K (a.put o.dst v') w') :
    if Region.wanted o (yielded ops a.tmps)=true then Oper.wp P o a w K Q else E:=by
  have hw:Region.wanted o (yielded ops a.tmps)=true:=by simp [Region.wanted,hgd]
  rw [if_pos hw]
  rcases b with _|ad
  · obtain ⟨rfl,rfl⟩:=hz0 rfl
    have hr:=run_append_owned_none (P:=P) (w:=w) base t o.type e i size ht hi v 0 [] hown
    obtain rfl:news=[]:=List.eq_nil_of_length_eq_zero (by simpa using hl)
    unfold Oper.wp execOp
    simp only [ho,resolve,invoke,builtin,Sem.run_bind,Sem.run_pure,Result.andThen_ok,List.map_toArray,List.map_cons,List.map_nil,hs,hx,hr]
    exact h v w hown hown (gr_refl _ _)
  · obtain ⟨v',w',hr,r1,r2,_⟩:=run_append_own (P:=P) w base t o.type e i z size bytes ht hi hz hsize hby hzs hsz v 0 [] hown ad m c news hl (hnews ad rfl) h1 (by omega) (by simpa using hbytes) hbase
    unfold Oper.wp execOp
    simp only [ho,resolve,invoke,builtin,Sem.run_bind,Sem.run_pure,Result.andThen_ok,List.map_toArray,List.map_cons,List.map_nil,hs,hx,hr]
    exact h v' w' hown (by simpa using r1) r2
theorem infoHandE:(Try.prog.info? 60).map (fun i=>(i.zero,i.size,i.bytes))=some (some (.agg (hvals Ha.zero)),14,112):=by kernel_rfl
theorem infoDealE:(Try.prog.info? 62).map (fun i=>(i.zero,i.size,i.bytes))=some (some (.agg (dvals De.zero)),7,56):=by kernel_rfl
theorem Seg.news {w:World} {B n k:Nat} {b:Option Addr} {f:Nat→Nat→Value} {xs:List Value} (h:Seg w B b n k f) (hl:xs.length=n*k) (hg:∀ i j,i<n→j<k→xs[i*k+j]?=some (f i j)):∀ ad,b=some ad→∀ j u,xs[j]?=some u→w.cell? (ad.add j)=some u:=by
  intro ad e j u hu
  have hj:j<n*k:=by rw [← hl];exact (List.getElem?_eq_some_iff.1 hu).1
  have hk:0<k:=Nat.pos_of_ne_zero fun e=>by subst e;simp at hj
  rcases h with h0|⟨b',o',e2,_,hc⟩
  · subst h0;simp at hj
  · subst e
    simp at e2
    subst e2
    have e3:j=j / k*k+j % k:=by have:=Nat.div_add_mod j k;rw [Nat.mul_comm] at this;omega
    have hi:j / k<n:=Nat.div_lt_of_lt_mul (by rw [Nat.mul_comm];exact hj)
    have hm:j % k<k:=Nat.mod_lt _ hk
    have g1:=hg (j / k) (j % k) hi hm
    rw [← e3] at g1
    rw [g1] at hu
    simp at hu
    rw [← hu,← hc (j / k) (j % k) hi hm]
    congr 1
    by_cases e:j=0
    · subst e;simp [Addr.add]
    · simp [Addr.add,e];omega
set_option maxRecDepth 100000 in
set_option maxHeartbeats 4000000 in
theorem l11Copy_any (x:Wo) (a b d e:Option Addr) (p q r s:Nat) (w:World) (h1:Seg w w.heap.size a x.ch.cells.length 3 (cellF x.ch.cells)) (z1:a=none→p=0) (h2:Seg w w.heap.size b x.ch.words.length 1 (intF x.ch.words)) (z2:b=none→q=0) (h3:Seg w w.heap.size d x.hands.length 14 (handF x.hands)) (z3:d=none→x.hands.length=0∧r=0) (h4:Seg w w.heap.size e x.deals.length 7 (dealF x.deals)) (z4:e=none→x.deals.length=0∧s=0) (m1:x.ch.cells.length≤1099511627776) (m2:x.ch.words.length≤1099511627776) (m3:x.hands.length≤1099511627776) (m4:x.deals.length≤1099511627776) :
    Calls Try.prog 49 #[.agg #[.int .i64 x.ch.cap,.int .i64 x.ch.sent,.int .i64 x.ch.got,.int .i64 x.ch.fin,.slice a x.ch.cells.length p,.slice b x.ch.words.length q,.slice d x.hands.length r,.slice e x.deals.length s,.int .i64 x.now]] w fun r w' =>
      (∃ v1 v2 v3 v4,r=.returned (.agg #[.int .i64 x.ch.cap,.int .i64 x.ch.sent,.int .i64 x.ch.got,.int .i64 x.ch.fin,v1,v2,v3,v4,.int .i64 x.now])∧OCells w' w.heap.size v1 x.ch.cells∧OInts w' w.heap.size v2 x.ch.words∧OHands w' w.heap.size v3 x.hands∧ODeals w' w.heap.size v4 x.deals)∧Below w.heap.size w w':=by
  obtain ⟨i5,hi5,hz5,hsz5,hby5⟩:=info_parts infoHandE
  obtain ⟨i6,hi6,hz6,hsz6,hby6⟩:=info_parts infoDealE
  have H1:=Lib.hid h1
  have H2:=Lib.hid h2
  have H3:=Lib.hid h3
  have H4:=Lib.hid h4
  have Z1:=Lib.hid z1
  have Z2:=Lib.hid z2
  have Zn5:=Lib.hid z3
  have Zn6:=Lib.hid z4
  clear h1 h2 h3 h4 z1 z2 z3 z4
  go_enter Try.func49,Try.ntmps49
  go_wp2_with fail
  go_region_held3 (fun w'=>∀ o,w'.cell? ⟨w.heap.size,o,none⟩=#[Value.int .i64 x.ch.cap,.int .i64 x.ch.sent,.int .i64 x.ch.got,.int .i64 x.ch.fin,.slice a x.ch.cells.length p,.slice b x.ch.words.length q,.slice d x.hands.length r,.slice e x.deals.length s,.int .i64 x.now][o]?)
    (first|(intro o;simp [*,go_sem]))
    (first|(go_at_call 80;refine (l2Copy_any x.ch a b p q _ ((H1.out.below (by exact zB)).more (by (try simp) <;> omega)) Z1.out ((H2.out.below (by exact zB)).more (by (try simp) <;> omega)) Z2.out m1 m2).mono ?_;rintro _ w4 ⟨⟨v1,v2,rfl,o1,o2⟩,hb4⟩;have hC4:Below w.heap.size w w4:=bT (by exact zB) hb4;have hs4:=hb4.size;(try simp at hs4);have x4:=fun o=>hb4.cell (p:=⟨w.heap.size,o,none⟩) (by ((try simp) <;> (try omega)));have y4:=fun o=>hb4.cell (p:=⟨w.heap.size+1,o,none⟩) (by ((try simp) <;> (try omega)));have yf4:=fun o=>hb4.frozen (p:=⟨w.heap.size+1,o,none⟩) (by ((try simp) <;> (try omega)));(try simp [go_sem] at x4);(try simp [go_sem] at y4);(try simp [go_sem] at yf4);have l4:w.heap.size<w4.heap.size:=(by omega);have l4b:w.heap.size+1<w4.heap.size:=(by omega);replace o1:=own_lo (lo':=w.heap.size+1+1) o1 (by ((try simp) <;> (try omega)));replace o2:=own_lo (lo':=w.heap.size+1+1) o2 (by ((try simp) <;> (try omega)));have o10:=o1;have o20:=o2;obtain ⟨va,vc,rfl,_⟩:=OCells.seg o1;obtain ⟨vb,vd,rfl,_⟩:=OInts.seg o2)|(refine step_app (by rfl) _ _ _ (by rfl) (w.heap.size+1+1) 60 i5 _ 14 112 Try.underlying35 hi5 hz5 hsz5 hby5 rfl (by decide) (.slice (some ⟨_,0,none⟩) 0 0) (by rfl) ?_ d x.hands.length r (flatH x.hands) (by rfl) Zn5.out (flatH_len _) (Seg.news (H3.out.below (by exact zB)) (flatH_len _) (flatH_get _)) (flatH_one _) (by unfold maxLen;omega) (by omega) (by ((try simp) <;> (try omega))) ?_;(focus ((repeat (first|with_reducible refine World.ownsRow.drew ?_|((with_reducible refine own_made_at _ _ _ _ _ ?_ ?_) <;> (first|(simp;done)|(simp;omega)|omega))|with_reducible refine World.ownsRow.alloc ?_ _|with_reducible refine own_below ?_ hb4))));intro v5 w5 f5 o5 g5;have hC5:Below w.heap.size w w5:=bOwn (by exact zB) g5 (by ((try simp) <;> (try omega))) (fun k hk=>by have:=(f5.lt k hk).1;omega);have hs5:=g5.size;(try simp at hs5);have x5:=fun o=>grCell g5 (b:=w.heap.size) (by ((try simp) <;> (try omega))) (fun e=>own_ne f5 (by omega) e.symm) o;have y5:=fun o=>grCell g5 (b:=w.heap.size+1) (by ((try simp) <;> (try omega))) (fun e=>own_ne f5 (by omega) e.symm) o;have yf5:=fun o=>grFroz g5 (b:=w.heap.size+1) (by ((try simp) <;> (try omega))) (fun e=>own_ne f5 (by omega) e.symm) o;(try simp [go_sem,x4,l4,l4b] at x5);(try simp [go_sem,y4,l4,l4b] at y5);(try simp [go_sem,yf4,l4,l4b] at yf5);have l5:w.heap.size<w5.heap.size:=(by omega);have l5b:w.heap.size+1<w5.heap.size:=(by omega);have o50:=o5;obtain ⟨vx5,vy5,rfl,_⟩:=OHands.seg o5)|(refine step_app (by rfl) _ _ _ (by rfl) (w.heap.size+1+1) 62 i6 _ 7 56 Try.underlying36 hi6 hz6 hsz6 hby6 rfl (by decide) (.slice (some ⟨_,0,none⟩) 0 0) (by rfl) ?_ e x.deals.length s (flatD x.deals) (by rfl) Zn6.out (flatD_len _) (Seg.news (H4.out.below (by exact zB)) (flatD_len _) (flatD_get _)) (flatD_one _) (by unfold maxLen;omega) (by omega) (by ((try simp) <;> (try omega))) ?_;(focus ((repeat (first|with_reducible refine World.ownsRow.drew ?_|((with_reducible refine own_made_at _ _ _ _ _ ?_ ?_) <;> (first|(simp;done)|(simp;omega)|omega))|with_reducible refine World.ownsRow.alloc ?_ _|with_reducible refine own_below ?_ hb4|with_reducible refine own_through ?_ f5 (by decide) g5))));intro v6 w6 f6 o6 g6;have hC6:Below w.heap.size w w6:=bOwn (by exact zB) g6 (by ((try simp) <;> (try omega))) (fun k hk=>by have:=(f6.lt k hk).1;omega);have hs6:=g6.size;(try simp at hs6);have x6:=fun o=>grCell g6 (b:=w.heap.size) (by ((try simp) <;> (try omega))) (fun e=>own_ne f6 (by omega) e.symm) o;have y6:=fun o=>grCell g6 (b:=w.heap.size+1) (by ((try simp) <;> (try omega))) (fun e=>own_ne f6 (by omega) e.symm) o;have yf6:=fun o=>grFroz g6 (b:=w.heap.size+1) (by ((try simp) <;> (try omega))) (fun e=>own_ne f6 (by omega) e.symm) o;(try simp [go_sem,x5,l5,l5b] at x6);(try simp [go_sem,y5,l5,l5b] at y6);(try simp [go_sem,yf5,l5,l5b] at yf6);have l6:w.heap.size<w6.heap.size:=(by omega);have l6b:w.heap.size+1<w6.heap.size:=(by omega);have o60:=o6;obtain ⟨vx6,vy6,rfl,_⟩:=ODeals.seg o6))
  all_goals go_wp2
  all_goals (refine bodyPost_ret (v:=.agg #[.int .i64 x.ch.cap,.int .i64 x.ch.sent,.int .i64 x.ch.got,.int .i64 x.ch.fin,.slice va x.ch.cells.length vc,.slice vb x.ch.words.length vd,.slice vx5 x.hands.length vy5,.slice vx6 x.deals.length vy6,.int .i64 x.now]) (by simp [results,Try.results49,go_sem, *]) rfl ⟨⟨_,_,_,_,rfl,own_lo (lo:=w.heap.size+1+1) ?_ (by omega),own_lo (lo:=w.heap.size+1+1) ?_ (by omega),own_lo (lo:=w.heap.size+1+1) ?_ (by omega),own_lo (lo:=w.heap.size+1+1) ?_ (by omega)⟩,by exact zB⟩)
  all_goals first|((repeat (first|with_reducible exact o1|with_reducible refine World.ownsRow.drew ?_|with_reducible refine World.ownsRow.alloc ?_ _|((with_reducible refine own_store ?_ ?_ _);rotate_left;(focus (refine own_ne o10 ?_;(try dsimp only);omega)))|with_reducible refine own_through ?_ f6 (by decide) g6|with_reducible refine own_through ?_ f5 (by decide) g5));done)|skip
  all_goals first|((repeat (first|with_reducible exact o2|with_reducible refine World.ownsRow.drew ?_|with_reducible refine World.ownsRow.alloc ?_ _|((with_reducible refine own_store ?_ ?_ _);rotate_left;(focus (refine own_ne o20 ?_;(try dsimp only);omega)))|with_reducible refine own_through ?_ f6 (by decide) g6|with_reducible refine own_through ?_ f5 (by decide) g5));done)|skip
  all_goals first|((repeat (first|with_reducible exact o5|with_reducible refine World.ownsRow.drew ?_|with_reducible refine World.ownsRow.alloc ?_ _|((with_reducible refine own_store ?_ ?_ _);rotate_left;(focus (refine own_ne o50 ?_;(try dsimp only);omega)))|with_reducible refine own_through ?_ f6 (by decide) g6|with_reducible refine own_through ?_ f5 (by decide) g5));done)|skip
  all_goals first|((repeat (first|with_reducible exact o6|with_reducible refine World.ownsRow.drew ?_|with_reducible refine World.ownsRow.alloc ?_ _|((with_reducible refine own_store ?_ ?_ _);rotate_left;(focus (refine own_ne o60 ?_;(try dsimp only);omega)))|with_reducible refine own_through ?_ f6 (by decide) g6|with_reducible refine own_through ?_ f5 (by decide) g5));done)|skip
end Go.Proofs.Ytgpdocmclkpknaa
set_option linter.unusedSimpArgs false
set_option linter.unusedVariables false
namespace Go.Proofs.Ytgpdocmclkpknaa
open Go.RowKit
set_option linter.unusedSimpArgs false
attribute [local go_sem ↓] zeroHand toLHand toVHand storeHand storeHandC
set_option maxRecDepth 100000 in
set_option maxHeartbeats 2000000 in
theorem sCalled_any (h:Ha) (k e:Int) (w:World):Calls Try.prog 50 #[.agg (hvals h),.agg #[.int .i64 k,.int .i64 e]] w fun r w'=>r=.returned (.tuple #[.agg (hvals (called h k e).1),.int .i64 (called h k e).2])∧Below w.heap.size w w':=by
  by_cases h0:handOk h=true
  · by_cases h1:h.pos=0
    · by_cases h2:callOk k e=true
      · rw [show called h k e=(begun k e 0,0) by simp [called,h0,h1,h2]]
        have n1:(h.pos != 0)=false:=by simp [h1]
        clear h1
        go_enter Try.func50,Try.ntmps50
        go_wp2_with fail;refine bHit w (by exact zB) fun bb=>?_;refine (sHandOk_any h _).mono ?_;rintro _ w1 ⟨rfl,hbw1⟩;have hCw1:Below w.heap.size w w1:=bT bb hbw1;have hsw1:=hbw1.size;(try simp at hsw1);have zz:=And.intro (hQ hbw1 (b:=w.heap.size+1+1)) <| And.intro (hQ hbw1 (b:=w.heap.size+1)) <| hQ hbw1 (b:=w.heap.size);(try simp [go_sem] at zz);(try clear z_wpp x_wpp f_wpp l_wpp);(try clear z_wp x_wp f_wp l_wp);(try clear z_w x_w f_w l_w);obtain ⟨z_wpp,z_wp,z_w⟩:=zz;obtain ⟨x_wpp,f_wpp,l_wpp⟩:=bO z_wpp;obtain ⟨x_wp,f_wp,l_wp⟩:=bO z_wp;obtain ⟨x_w,f_w,l_w⟩:=bO z_w;clear hbw1 bb
        rw [h0]
        go_wp2_with fail;refine bHit w (by exact zB) fun bb=>?_;refine (sCallOk_any k e _).mono ?_;rintro _ w2 ⟨rfl,hbw2⟩;have hCw2:Below w.heap.size w w2:=bT bb hbw2;have hsw2:=hbw2.size;(try simp at hsw2);have zz:=And.intro (hQ hbw2 (b:=w.heap.size+1+1)) <| And.intro (hQ hbw2 (b:=w.heap.size+1)) <| hQ hbw2 (b:=w.heap.size);(first|simp [go_sem,z_wpp,z_wp,z_w,l_w,l_wp,l_wpp] at zz|simp [go_sem] at zz|skip);(try clear z_wpp x_wpp f_wpp l_wpp);(try clear z_wp x_wp f_wp l_wp);(try clear z_w x_w f_w l_w);obtain ⟨z_wpp,z_wp,z_w⟩:=zz;obtain ⟨x_wpp,f_wpp,l_wpp⟩:=bO z_wpp;obtain ⟨x_wp,f_wp,l_wp⟩:=bO z_wp;obtain ⟨x_w,f_w,l_w⟩:=bO z_w;clear hbw2 bb
        rw [h2]
        go_wp2_with fail;refine bHit w (by exact zB) fun bb=>?_;refine (l5Begin_any k e 0 _).mono ?_;rintro _ w3 ⟨rfl,hbw3⟩;have hCw3:Below w.heap.size w w3:=bT bb hbw3;have hsw3:=hbw3.size;(try simp at hsw3);have zz:=And.intro (hQ hbw3 (b:=w.heap.size+1+1)) <| And.intro (hQ hbw3 (b:=w.heap.size+1)) <| hQ hbw3 (b:=w.heap.size);(first|simp [go_sem,z_wpp,z_wp,z_w,l_w,l_wp,l_wpp] at zz|simp [go_sem] at zz|skip);(try clear z_wpp x_wpp f_wpp l_wpp);(try clear z_wp x_wp f_wp l_wp);(try clear z_w x_w f_w l_w);obtain ⟨z_wpp,z_wp,z_w⟩:=zz;obtain ⟨x_wpp,f_wpp,l_wpp⟩:=bO z_wpp;obtain ⟨x_wp,f_wp,l_wp⟩:=bO z_wp;obtain ⟨x_w,f_w,l_w⟩:=bO z_w;clear hbw3 bb
        go_wp2
        exact bodyPost_ret (res_ct Try.results50 rfl (ldHand (begun k e 0) (by simp [go_sem, *]))) rfl ⟨rfl,by exact zB⟩
      · have h2':callOk k e=false:=by simpa using h2
        rw [show called h k e=(h,2) by simp [called,h0,h1,h2']]
        have n1:(h.pos != 0)=false:=by simp [h1]
        clear h1 h2
        go_enter Try.func50,Try.ntmps50
        go_wp2_with fail;refine bHit w (by exact zB) fun bb=>?_;refine (sHandOk_any h _).mono ?_;rintro _ w1 ⟨rfl,hbw1⟩;have hCw1:Below w.heap.size w w1:=bT bb hbw1;have hsw1:=hbw1.size;(try simp at hsw1);have zz:=And.intro (hQ hbw1 (b:=w.heap.size+1+1)) <| And.intro (hQ hbw1 (b:=w.heap.size+1)) <| hQ hbw1 (b:=w.heap.size);(try simp [go_sem] at zz);(try clear z_wpp x_wpp f_wpp l_wpp);(try clear z_wp x_wp f_wp l_wp);(try clear z_w x_w f_w l_w);obtain ⟨z_wpp,z_wp,z_w⟩:=zz;obtain ⟨x_wpp,f_wpp,l_wpp⟩:=bO z_wpp;obtain ⟨x_wp,f_wp,l_wp⟩:=bO z_wp;obtain ⟨x_w,f_w,l_w⟩:=bO z_w;clear hbw1 bb
        rw [h0]
        go_wp2_with fail;refine bHit w (by exact zB) fun bb=>?_;refine (sCallOk_any k e _).mono ?_;rintro _ w2 ⟨rfl,hbw2⟩;have hCw2:Below w.heap.size w w2:=bT bb hbw2;have hsw2:=hbw2.size;(try simp at hsw2);have zz:=And.intro (hQ hbw2 (b:=w.heap.size+1+1)) <| And.intro (hQ hbw2 (b:=w.heap.size+1)) <| hQ hbw2 (b:=w.heap.size);(first|simp [go_sem,z_wpp,z_wp,z_w,l_w,l_wp,l_wpp] at zz|simp [go_sem] at zz|skip);(try clear z_wpp x_wpp f_wpp l_wpp);(try clear z_wp x_wp f_wp l_wp);(try clear z_w x_w f_w l_w);obtain ⟨z_wpp,z_wp,z_w⟩:=zz;obtain ⟨x_wpp,f_wpp,l_wpp⟩:=bO z_wpp;obtain ⟨x_wp,f_wp,l_wp⟩:=bO z_wp;obtain ⟨x_w,f_w,l_w⟩:=bO z_w;clear hbw2 bb
        rw [h2']
        go_wp2
        exact bodyPost_ret (res_ct Try.results50 rfl (ldHand h (by simp [go_sem, *]))) rfl ⟨rfl,by exact zB⟩
    · rw [show called h k e=(h,1) by simp [called,h0,h1]]
      have n1:(h.pos != 0)=true:=by simpa using h1
      clear h1
      go_enter Try.func50,Try.ntmps50
      go_wp2_with fail;refine bHit w (by exact zB) fun bb=>?_;refine (sHandOk_any h _).mono ?_;rintro _ w1 ⟨rfl,hbw1⟩;have hCw1:Below w.heap.size w w1:=bT bb hbw1;have hsw1:=hbw1.size;(try simp at hsw1);have zz:=And.intro (hQ hbw1 (b:=w.heap.size+1+1)) <| And.intro (hQ hbw1 (b:=w.heap.size+1)) <| hQ hbw1 (b:=w.heap.size);(try simp [go_sem] at zz);(try clear z_wpp x_wpp f_wpp l_wpp);(try clear z_wp x_wp f_wp l_wp);(try clear z_w x_w f_w l_w);obtain ⟨z_wpp,z_wp,z_w⟩:=zz;obtain ⟨x_wpp,f_wpp,l_wpp⟩:=bO z_wpp;obtain ⟨x_wp,f_wp,l_wp⟩:=bO z_wp;obtain ⟨x_w,f_w,l_w⟩:=bO z_w;clear hbw1 bb
      rw [h0]
      go_wp2
      exact bodyPost_ret (res_ct Try.results50 rfl (ldHand h (by simp [go_sem, *]))) rfl ⟨rfl,by exact zB⟩
  · have h0':handOk h=false:=by simpa using h0
    rw [show called h k e=(Ha.zero,3) by simp [called,h0']]
    clear h0
    go_enter Try.func50,Try.ntmps50
    go_wp2_with fail;refine bHit w (by exact zB) fun bb=>?_;refine (sHandOk_any h _).mono ?_;rintro _ w1 ⟨rfl,hbw1⟩;have hCw1:Below w.heap.size w w1:=bT bb hbw1;have hsw1:=hbw1.size;(try simp at hsw1);have zz:=And.intro (hQ hbw1 (b:=w.heap.size+1+1)) <| And.intro (hQ hbw1 (b:=w.heap.size+1)) <| hQ hbw1 (b:=w.heap.size);(try simp [go_sem] at zz);(try clear z_wpp x_wpp f_wpp l_wpp);(try clear z_wp x_wp f_wp l_wp);(try clear z_w x_w f_w l_w);obtain ⟨z_wpp,z_wp,z_w⟩:=zz;obtain ⟨x_wpp,f_wpp,l_wpp⟩:=bO z_wpp;obtain ⟨x_wp,f_wp,l_wp⟩:=bO z_wp;obtain ⟨x_w,f_w,l_w⟩:=bO z_w;clear hbw1 bb
    rw [h0']
    go_wp2
    exact bodyPost_ret (res_ct Try.results50 rfl (ldHand Ha.zero (by simp [go_sem, *]))) rfl ⟨rfl,by exact zB⟩
end Go.Proofs.Ytgpdocmclkpknaa
set_option linter.unusedSimpArgs false
set_option linter.unusedVariables false
namespace Go.Proofs.Ytgpdocmclkpknaa
open Go.RowKit
set_option linter.unusedSimpArgs false
attribute [local simp] bx_size
attribute [local go_sem ↓] zeroHand zeroChan toLHand toLChan toVHand toVChan storeHand storeChan storeHandC storeChanC /- Elder contracts, said of channels kept whole. -/
/-- The list is the old one, or has been made since. -/
def Fresh (w:World) (v v':Value):Prop:=∀ j,v'.ownBlock=some j→v.ownBlock=some j∨w.heap.size≤j
/-- It lies apart from what the caller has made. -/
theorem Fresh.off {w w0:World} {v v':Value} (h:Fresh w v v') (hv:∀ j,v.ownBlock=some j→j<w0.heap.size) {b:Nat} (h1:w0.heap.size≤b) (h2:b<w.heap.size):v'.ownBlock≠some b:=fun e=>by
  rcases h b e with h|h
  · have:=hv b h;omega
  · omega
end Go.Proofs.Ytgpdocmclkpknaa
set_option linter.unusedSimpArgs false
set_option linter.unusedVariables false
namespace Go.Proofs.Ytgpdocmclkpknaa
open Go.RowKit
set_option linter.unusedSimpArgs false
/-- The lists of a world, of the call's own. -/
def WOwn (w':World) (lo:Nat) (v1 v2 v3 v4:Value) (x:Wo):Prop:=OCells w' lo v1 x.ch.cells∧OInts w' lo v2 x.ch.words∧OHands w' lo v3 x.hands∧ODeals w' lo v4 x.deals
/-- A world and one word more are answered. -/
def WordR (w w':World) (x:Wo) (t:Value) (r:Ending):Prop:=(∃ v1 v2 v3 v4,r=.returned (.tuple #[.agg #[.int .i64 x.ch.cap,.int .i64 x.ch.sent,.int .i64 x.ch.got,.int .i64 x.ch.fin,v1,v2,v3,v4,.int .i64 x.now],t])∧WOwn w' w.heap.size v1 v2 v3 v4 x)∧Below w.heap.size w w'
theorem wown_zero (w':World) (lo:Nat):WOwn w' lo (.slice none 0 0) (.slice none 0 0) (.slice none 0 0) (.slice none 0 0) Wo.zero:=⟨World.ownsRow_nil _ _ _ _,World.ownsRow_nil _ _ _ _,World.ownsRow_nil _ _ _ _,World.ownsRow_nil _ _ _ _⟩
/-- Storing a hand whole, as one word. -/
def SHand (x v:Value):Sem Unit:=Instr.storeAt 60 x v
theorem toSHand (x v:Value):Instr.storeAt 60 x v=SHand x v:=by unfold SHand;simp
theorem runSHand {w:World} {b:Nat} (x:Ha) (h:okO 14 (hp w b)=true):(SHand (.pointer (some ⟨b,0,none⟩)) (.agg (hvals x))).run Try.prog w=.ok () (setBox w b (hvals x)):=storeHand x h
/-- A hand is laid into a list. -/
def setElem (w:World) (b o:Nat) (x:Ha):World :=
  (((((((((((((w.setCell ⟨b,o+0,none⟩ (.int .i64 x.pos)).setCell ⟨b,o+1,none⟩ (.int .i64 x.code)).setCell ⟨b,o+2,none⟩ (.int .i64 x.elem)).setCell ⟨b,o+3,none⟩ (.int .i64 x.cell)).setCell ⟨b,o+4,none⟩ (.int .i64 x.seen)).setCell ⟨b,o+5,none⟩ (.int .i64 x.wait)).setCell ⟨b,o+6,none⟩ (.int .i64 x.fin)).setCell ⟨b,o+7,none⟩ (.int .i64 x.come)).setCell ⟨b,o+8,none⟩ (.int .i64 x.grow)).setCell ⟨b,o+9,none⟩ (.int .i64 x.mine)).setCell ⟨b,o+10,none⟩ (.int .i64 x.nxt)).setCell ⟨b,o+11,none⟩ (.int .i64 x.beg)).setCell ⟨b,o+12,none⟩ (.int .i64 x.reply)).setCell ⟨b,o+13,none⟩ (.int .i64 x.out)
set_option maxRecDepth 100000 in
set_option maxHeartbeats 4000000 in
theorem stHandE {w:World} {b o:Nat} (x:Ha) (h:∀ j,j<14→∃ v,w.cell? ⟨b,o+j,none⟩=some v) (hf:∀ j,w.frozen? ⟨b,j,none⟩=false):(SHand (.pointer (some ⟨b,o,none⟩)) (.agg (hvals x))).run Try.prog w=.ok () (setElem w b o x):=by
  obtain ⟨u0,h0⟩:=h 0 (by omega)
  obtain ⟨u1,h1⟩:=h 1 (by omega)
  obtain ⟨u2,h2⟩:=h 2 (by omega)
  obtain ⟨u3,h3⟩:=h 3 (by omega)
  obtain ⟨u4,h4⟩:=h 4 (by omega)
  obtain ⟨u5,h5⟩:=h 5 (by omega)
  obtain ⟨u6,h6⟩:=h 6 (by omega)
  obtain ⟨u7,h7⟩:=h 7 (by omega)
  obtain ⟨u8,h8⟩:=h 8 (by omega)
  obtain ⟨u9,h9⟩:=h 9 (by omega)
  obtain ⟨u10,h10⟩:=h 10 (by omega)
  obtain ⟨u11,h11⟩:=h 11 (by omega)
  obtain ⟨u12,h12⟩:=h 12 (by omega)
  obtain ⟨u13,h13⟩:=h 13 (by omega)
  simp only [Nat.add_zero] at h0
  simp [SHand,hvals,go_sem,setElem, *]
theorem setElem_gr (w:World) (b o:Nat) (x:Ha):w.grownBy (setElem w b o x) (some b):=by
  unfold setElem
  repeat (first|with_reducible exact gR _ _|with_reducible refine gS ?_ (.inl rfl))
theorem setElem_size (w:World) (b o:Nat) (x:Ha):(setElem w b o x).heap.size=w.heap.size:=by simp [setElem]
theorem flatH_set:∀ (hs:List Ha) (i:Nat) (x:Ha),i<hs.length →
    flatH (hs.set i x)=(((((((((((((((flatH hs).set (i*14+0) (.int .i64 x.pos)).set (i*14+1) (.int .i64 x.code)).set (i*14+2) (.int .i64 x.elem)).set (i*14+3) (.int .i64 x.cell)).set (i*14+4) (.int .i64 x.seen)).set (i*14+5) (.int .i64 x.wait)).set (i*14+6) (.int .i64 x.fin)).set (i*14+7) (.int .i64 x.come)).set (i*14+8) (.int .i64 x.grow)).set (i*14+9) (.int .i64 x.mine)).set (i*14+10) (.int .i64 x.nxt)).set (i*14+11) (.int .i64 x.beg)).set (i*14+12) (.int .i64 x.reply)).set (i*14+13) (.int .i64 x.out)):=by
  intro hs i x hi
  apply List.ext_getElem?
  intro n
  by_cases hn:n<hs.length*14
  · have e:n=n / 14*14+n % 14:=by omega
    have h1:=flatH_get (hs.set i x) (n / 14) (n % 14) (by simp;omega) (by omega)
    have h2:=flatH_get hs (n / 14) (n % 14) (by omega) (by omega)
    rw [← e] at h1 h2
    rw [h1]
    by_cases hq:n / 14=i
    · subst hq
      have hr:n % 14=0∨n % 14=1∨n % 14=2∨n % 14=3∨n % 14=4∨n % 14=5∨n % 14=6∨n % 14=7∨n % 14=8∨n % 14=9∨n % 14=10∨n % 14=11∨n % 14=12∨n % 14=13:=by omega
      have hl:=flatH_len hs
      rcases hr with hr|hr|hr|hr|hr|hr|hr|hr|hr|hr|hr|hr|hr|hr
      all_goals (rw [hr] at e ⊢;simp only [List.getElem?_set,List.length_set];simp (disch:=omega) only [if_neg,if_pos,handF,List.getD_eq_getElem?_getD,List.getElem?_set,hvals,Array.getD];simp [hi,hl,hvals,handF,Array.getD])
    · simp only [List.getElem?_set,List.length_set]
      simp (disch:=omega) only [if_neg]
      rw [h2]
      simp [handF,List.getD,List.getElem?_set,Ne.symm hq]
  · rw [List.getElem?_eq_none (by rw [flatH_len];simp;omega),List.getElem?_eq_none (by simp [flatH_len];omega)]
theorem OHands.open1 {w:World} {lo:Nat} {v:Value} {hs:List Ha} (h:OHands w lo v hs) {i:Nat} (hi:i<hs.length) :
    ∃ g cap,v=.slice (some ⟨g,0,none⟩) hs.length cap∧lo≤g∧g<w.heap.size∧(∀ j,j<14→w.cell? ⟨g,i*14+j,none⟩=some ((hvals (hs.getD i Ha.zero)).getD j (.int .i64 0)))∧∀ o,w.frozen? ⟨g,o,none⟩=false:=by
  have h2:=h
  rcases h.2 with ⟨_,h0⟩|⟨g,cap,cur,rfl,hl,hg,_⟩
  · omega
  · refine ⟨g,cap,rfl,hl,(Array.getElem?_eq_some_iff.1 hg).1,fun j hj=>?_,fun o=>by simp [World.frozen?,hg]⟩
    have:=h2.cells (g:=g) rfl (i*14+j) _ (flatH_get hs i j hi hj)
    rw [show (hvals (hs.getD i Ha.zero)).getD j (.int .i64 0)=handF hs i j from rfl,← this]
    congr 1
    by_cases e:i*14+j=0 <;> simp [Addr.add,e] <;> omega
theorem OHands.set {w:World} {lo g cap:Nat} {hs:List Ha} (h:OHands w lo (.slice (some ⟨g,0,none⟩) hs.length cap) hs) {i:Nat} (hi:i<hs.length) (x:Ha) :
    OHands (setElem w g (i*14) x) lo (.slice (some ⟨g,0,none⟩) hs.length cap) (hs.set i x):=by
  have hl:=flatH_len hs
  unfold OHands setElem
  rw [flatH_set hs i x hi,List.length_set]
  iterate 14 (refine own_set_cell ?_ _ (by (try simp only [List.length_set]);omega) _)
  exact h
end Go.Proofs.Ytgpdocmclkpknaa
