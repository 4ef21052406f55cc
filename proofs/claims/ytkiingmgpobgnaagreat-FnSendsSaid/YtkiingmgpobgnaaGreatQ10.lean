/-
  The draw of a channel and a hand out of a drawn world in which some turns are made: only the cursor turns; the drawn bytes are at most 4096.
-/
import Derived.Test.YtkiingmgpobgnaaGreatQ09
import Derived.Deep.CutBlock
import Derived.Deep.DeepCutAuto
import Derived.Deep.RegionHeld3
import Derived.BigRegion
set_option linter.unusedSimpArgs false
set_option linter.unusedVariables false
namespace Go.Proofs.YtkiingmgpobgnaaGreat
open Go.RowKit
set_option linter.unusedSimpArgs false
/-- A channel that lies at the head of a box is loaded whole. -/
theorem ldChanE {w:World} {b:Nat} (c:Ch) (v1 v2:Value) (h:∀ j,j<6→w.cell? ⟨b,j,none⟩=(cvals c v1 v2)[j]?):(LChan (.pointer (some ⟨b,0,none⟩))).run Tryz.prog w=.ok (.agg (cvals c v1 v2)) w:=by
  have h0:=h 0 (by omega)
  have h1:=h 1 (by omega)
  have h2:=h 2 (by omega)
  have h3:=h 3 (by omega)
  have h4:=h 4 (by omega)
  have h5:=h 5 (by omega)
  simp [cvals] at h0 h1 h2 h3 h4 h5
  simp [LChan,cvals,go_sem, *]
theorem w9c {c:Ch} {v1 v2 v3 v4 v5:Value} (j:Nat) (hj:j<6):(#[.int .i64 c.cap,.int .i64 c.sent,.int .i64 c.got,.int .i64 c.fin,v1,v2,v3,v4,v5]:Array Value)[j]?=(cvals c v1 v2)[j]?:=by
  have:j=0∨j=1∨j=2∨j=3∨j=4∨j=5:=by omega
  rcases this with rfl|rfl|rfl|rfl|rfl|rfl <;> rfl
attribute [local simp] bx_size
attribute [local go_sem ↓] zeroHand zeroChan toLHand toLChan toVHand toVChan storeHand storeChan storeHandC storeChanC
attribute [local go_sem ↓] toSHand
attribute [local go_sem] runSHand
/-- In block b lies a good world whose lists are the call's own. -/
def InBox (wx:World) (lo b n:Nat):Prop:=∃ y v1 v2 v3 v4,GoodW n y∧WOwn wx lo v1 v2 v3 v4 y∧WOff b v1 v2 v3 v4∧hp wx b=some (.cells #[.int .i64 y.ch.cap,.int .i64 y.ch.sent,.int .i64 y.ch.got,.int .i64 y.ch.fin,v1,v2,v3,v4,.int .i64 y.now] 74)
theorem DS.grown {w w':World} {B g:Nat} {r:Option Nat} (h:DS w B g) (hg:w.grownBy w' r) (hr:∀ i,r=some i→g<i):DS w' B g :=
  h.keep (hg.block g h.lt (fun e=>by have:=hr g e.symm;omega)) ⟨hg.os,hg.tape,hg.output,hg.size,fun i hi=>hg.block i (by have:=h.lt;have:=h.le;omega) (fun e=>by have:=hr i e.symm;have:=h.le;omega)⟩
theorem Gr.grown {w W w':World} {g:Nat} {r:Option Nat} (h:Gr g w W) (hg:W.grownBy w' r) (hr:∀ i,r=some i→w.heap.size≤i):Gr g w w' :=
  ⟨hg.os.trans h.os,hg.tape.trans h.tape,hg.output.trans h.output,Nat.le_trans h.size hg.size,fun k hk hn=>(hg.block k (Nat.lt_of_lt_of_le hk h.size) (fun e=>by have:=hr k e.symm;omega)).trans (h.block k hk hn)⟩
/-- A channel of the call's own and a hand are answered. -/
def StepD (w':World) (lo:Nat) (r:Ending):Prop:=∃ (c:Ch) (h:Ha) (v1 v2:Value),r=.returned (.tuple #[.agg (cvals c v1 v2),.agg (hvals h)])∧OCells w' lo v1 c.cells∧OInts w' lo v2 c.words∧c.cells.length=40∧c.words.length≤80
/-- What stands when the parts have been changed. -/
def FS (w:World) (B g bh:Nat) (wx:World):Prop:=∃ (c:Ch) (h:Ha) (v1 v2:Value),OCells wx (w.heap.size+2) v1 c.cells∧OInts wx (w.heap.size+2) v2 c.words∧c.cells.length=40∧c.words.length≤80∧hp wx (bh+1)=some (.cells (cvals c v1 v2) 27)∧hp wx bh=some (.cells (hvals h) 31)∧hp wx w.heap.size=some (.cells (cvals Ch.zero (.slice none 0 0) (.slice none 0 0)) 27)∧hp wx (w.heap.size+1)=some (.cells (hvals Ha.zero) 31)∧DS wx B g∧Gr g w wx
/-- What is kept through the turns. -/
def LS (w:World) (B g n b:Nat) (wx:World):Prop:=InBox wx (w.heap.size+2) b n∧hp wx w.heap.size=some (.cells (cvals Ch.zero (.slice none 0 0) (.slice none 0 0)) 27)∧hp wx (w.heap.size+1)=some (.cells (hvals Ha.zero) 31)∧DS wx B g∧Gr g w wx
theorem step_own (y:Wo) (who:Int) (a b d e:Option Addr) (p q r s lo:Nat) (w:World) (h:WOwn w lo (.slice a y.ch.cells.length p) (.slice b y.ch.words.length q) (.slice d y.hands.length r) (.slice e y.deals.length s) y) (hy:RightW y) (ht:taskOk y who=true) :
    Calls Tryz.prog 53 #[.agg #[.int .i64 y.ch.cap,.int .i64 y.ch.sent,.int .i64 y.ch.got,.int .i64 y.ch.fin,.slice a y.ch.cells.length p,.slice b y.ch.words.length q,.slice d y.hands.length r,.slice e y.deals.length s,.int .i64 y.now],.int .i64 who] w fun r w'=>WordR w w' (step11 y who).1 (.bool (step11 y who).2) r:=by
  obtain ⟨s1,t1,s2,t2,s3,t3,s4,t4⟩:=h.segs
  obtain ⟨y1,y2,y3,y4⟩:=right_len hy
  exact l11Step_any y who a b d e p q r s w s1 t1 s2 t2 s3 t3 s4 t4 y1 y2 y3 y4 ht ⟨hy.n0,hy.n1⟩
set_option maxRecDepth 100000 in
set_option maxHeartbeats 40000000 in
def l6DrawA (B g:Nat) (f t code:Int) (w:World) :
    { P:Prop // Nonempty (PLift P)→DS w B g→0≤f→f≤t→t≤25→(code=0∨code=1∨code=2)→Calls Tryz.prog 20 #[.pointer (some ⟨g,0,none⟩),.int .i64 f,.int .i64 t,.int .i64 code] w fun r w'=>StepD w' w.heap.size r∧DS w' B g∧Gr g w w' }:=⟨_,by
  intro hP hd hf hft ht hcode
  have hl:=hd.lt
  have hle:=hd.le
  have m_w:some w.heap.size≠some g:=by simp;omega
  have m_wp:some (w.heap.size+1)≠some g:=by simp;omega
  go_enter Tryz.func20,Tryz.ntmps20
  go_wp2_with fail;refine (l11Draw_any B g  _ (by (repeat (first|with_reducible assumption|with_reducible refine DS.alloc ?_|with_reducible refine DS.drew ?_|((with_reducible refine DS.setCell ?_ ?_ ?_);rotate_left;(focus ((try simp);(try omega)));(focus ((try simp);(try omega))))))) ).mono ?_;rintro _ w1 ⟨⟨x,v1,v2,v3,v4,rfl,hown,hy,hw37,hwn⟩,hdw1,hgw1⟩;have hGw1:Gr g w w1:=gT (by (repeat (first|with_reducible assumption|with_reducible exact gR _ _|with_reducible refine gA ?_|with_reducible refine gD ?_|((with_reducible refine gS ?_ (.inr ?_));rotate_left;(focus ((try simp);(try omega))))))) hgw1;have hlw1:=hdw1.lt;have hsw1:=hgw1.size;(try (simp at hsw1))
  have hsw1:=hgw1.size;(try (simp at hsw1));have zz:=gQ hgw1 (b:=w.heap.size) m_w;(first|(simp [go_sem,z_w,l_w] at zz)|(simp [go_sem] at zz));(try clear x_w f_w);(try clear z_w);have z_w:=zz;clear zz;(try clear l_w);obtain ⟨x_w,f_w,l_w⟩:=bO z_w;have zz:=gQ hgw1 (b:=w.heap.size+1) m_wp;(first|(simp [go_sem,z_wp,l_wp] at zz)|(simp [go_sem] at zz));(try clear x_wp f_wp);(try clear z_wp);have z_wp:=zz;clear zz;(try clear l_wp);obtain ⟨x_wp,f_wp,l_wp⟩:=bO z_wp
  obtain ⟨a1,a2,a3,a4,c1,c2,c3,c4,rfl,rfl,rfl,rfl,_⟩:=hown.opens
  have h1:=hy.h1
  have h6:=hy.h6
  have l_g:g<w1.heap.size:=hdw1.lt
  have m_b:some w1.heap.size≠some g:=by simp;omega
  go_wp2_with fail;refine (l1Below_any B g (x.hands.length:Int)  _ (by (repeat (first|with_reducible assumption|with_reducible refine DS.alloc ?_|with_reducible refine DS.drew ?_|((with_reducible refine DS.setCell ?_ ?_ ?_);rotate_left;(focus ((try simp);(try omega)));(focus ((try simp);(try omega)))))))  (by omega) (by omega)).mono ?_;rintro _ w2 ⟨⟨z,rfl,hz0,hz1⟩,hdw2,hgw2⟩;have hGw2:Gr g w w2:=gT (by (repeat (first|with_reducible assumption|with_reducible exact gR _ _|with_reducible refine gA ?_|with_reducible refine gD ?_|((with_reducible refine gS ?_ (.inr ?_));rotate_left;(focus ((try simp);(try omega))))))) hgw2;have hlw2:=hdw2.lt;have hsw2:=hgw2.size;(try (simp at hsw2))
  obtain ⟨k,rfl⟩:=Int.eq_ofNat_of_zero_le hz0
  have hsw2:=hgw2.size;(try (simp at hsw2));have zz:=gQ hgw2 (b:=w.heap.size) m_w;(first|(simp [go_sem,z_w,l_w] at zz)|(simp [go_sem] at zz));(try clear x_w f_w);(try clear z_w);have z_w:=zz;clear zz;(try clear l_w);obtain ⟨x_w,f_w,l_w⟩:=bO z_w;have zz:=gQ hgw2 (b:=w.heap.size+1) m_wp;(first|(simp [go_sem,z_wp,l_wp] at zz)|(simp [go_sem] at zz));(try clear x_wp f_wp);(try clear z_wp);have z_wp:=zz;clear zz;(try clear l_wp);obtain ⟨x_wp,f_wp,l_wp⟩:=bO z_wp
  have t_b:=grHp hgw2 (b:=w1.heap.size) (by simp) m_b
  simp [go_sem] at t_b
  have OW2:=WOwn.gr (WOwn.alloc hown _) hgw2 (by simp;omega)
  go_wp2_with fail;refine (l1From_any B g f t  _ (by (repeat (first|with_reducible assumption|with_reducible refine DS.alloc ?_|with_reducible refine DS.drew ?_|((with_reducible refine DS.setCell ?_ ?_ ?_);rotate_left;(focus ((try simp);(try omega)));(focus ((try simp);(try omega)))))))  (by omega) (by omega) (by omega) (by omega)).mono ?_;rintro _ w3 ⟨⟨at3,rfl,hat0,hat1⟩,hdw3,hgw3⟩;have hGw3:Gr g w w3:=gT (by (repeat (first|with_reducible assumption|with_reducible exact gR _ _|with_reducible refine gA ?_|with_reducible refine gD ?_|((with_reducible refine gS ?_ (.inr ?_));rotate_left;(focus ((try simp);(try omega))))))) hgw3;have hlw3:=hdw3.lt;have hsw3:=hgw3.size;(try (simp at hsw3))
  have l_b:=(bO t_b).2.2
  have z_b:=(grHp hgw3 (b:=w1.heap.size) l_b m_b).trans t_b
  have hsw3:=hgw3.size;(try (simp at hsw3));have zz:=gQ hgw3 (b:=w.heap.size) m_w;(first|(simp [go_sem,z_w,l_w] at zz)|(simp [go_sem] at zz));(try clear x_w f_w);(try clear z_w);have z_w:=zz;clear zz;(try clear l_w);obtain ⟨x_w,f_w,l_w⟩:=bO z_w;have zz:=gQ hgw3 (b:=w.heap.size+1) m_wp;(first|(simp [go_sem,z_wp,l_wp] at zz)|(simp [go_sem] at zz));(try clear x_wp f_wp);(try clear z_wp);have z_wp:=zz;clear zz;(try clear l_wp);obtain ⟨x_wp,f_wp,l_wp⟩:=bO z_wp
  have OW3:=WOwn.gr OW2 hgw3 (by simp;omega)
  obtain ⟨n,hn⟩:∃ n,n=x.hands.length:=⟨_,rfl⟩
  have hkn:k<n:=by omega
  have hLS:LS w B g n w1.heap.size w3:=⟨⟨x,_,_,_,_,⟨hy,hwn,hn.symm⟩,OW3.lo (by simp),hown.ne' (Nat.le_refl _),z_b⟩,z_w,z_wp,hdw3,hGw3⟩
  clear z_b t_b OW2 OW3 hown hy hw37 hwn hz0 hz1 x_w f_w l_w x_wp f_wp l_wp z_w z_wp hgw3 hgw2 hgw1 hdw1 hdw2 hdw3 hGw1 hGw2 hGw3 hd l_b
  have hbw:w.heap.size+2≤w1.heap.size:=by simpa using hsw1
  have kb0:w.heap.size<w1.heap.size:=by omega
  have kb1:w.heap.size+1<w1.heap.size:=by omega
  generalize hb:w1.heap.size=b at *
  clear hsw2 hsw3 hb hn h1 h6 hlw1 hlw2 hlw3 l_g
  go_upto_block 0 with fail
  go_cut [] (fun wx=>LS w B g n b wx)
  case first =>
    go_wp2_with fail
    go_loopw [13] (fun iv wr=>∃ m:Nat,iv=.int .i64 m∧m≤60∧LS w B g n b wr) (fun iv _=>60 - (intOf iv).toNat)
    case atStart=>exact ⟨0,by simp,by omega,hLS⟩
    case round =>
      clear hLS
      obtain ⟨m,rfl,hm,hLS⟩:=hrel
      obtain ⟨⟨y,v1,v2,v3,v4,hy,hown,hoff,z_b⟩,z_w,z_wp,hd,hG⟩:=hLS
      obtain ⟨a1,a2,a3,a4,c1,c2,c3,c4,rfl,rfl,rfl,rfl,_⟩:=hown.opens
      obtain ⟨x_b,f_b,l_b⟩:=bO z_b
      obtain ⟨x_w,f_w,l_w⟩:=bO z_w
      obtain ⟨x_wp,f_wp,l_wp⟩:=bO z_wp
      have OW:=hown
      have hl:=hd.lt
      clear hown
      have hi_k:k<y.hands.length:=by rw [hy.len];exact hkn
      obtain ⟨gh,gq,eg,_,lg,hgc,_⟩:=OHands.open1 OW.2.2.1 hi_k
      simp at eg
      obtain ⟨rfl,rfl⟩:=eg
      have cpos:=(hgc 0 (by omega)).trans (show _=some (.int .i64 (handAt y k).pos) by simp [handAt,hvals,Array.getD])
      simp only [Nat.add_zero] at cpos
      have ci0:(0:Int)≤(k:Int):=by omega
      have ci1:(k:Int)<(y.hands.length:Int):=by omega
      clear hgc
      by_cases hm6:m=60
      · subst hm6
        go_wp2_with fail
        go_meet
        exact ⟨⟨y,_,_,_,_,hy,OW,hoff,z_b⟩,z_w,z_wp,hd,hG⟩
      have hm60:(m:Int)<60:=by omega
      by_cases hp:(handAt y k).pos=at3
      · have hpb:((handAt y k).pos != at3)=false:=by simpa using hp
        clear hp
        go_wp2_with fail
        go_meet
        exact ⟨⟨y,_,_,_,_,hy,OW,hoff,z_b⟩,z_w,z_wp,hd,hG⟩
      have hpb:((handAt y k).pos != at3)=true:=by simpa using hp
      clear hp
      have hn1:y.hands.length≤n:=Nat.le_of_eq hy.len
      have hn2:n≤y.hands.length:=Nat.le_of_eq hy.len.symm
      have hn6:=hy.right.h6
      go_wp2_with fail;refine (l1Below_any B g (y.hands.length:Int)  _ (by (repeat (first|with_reducible assumption|with_reducible refine DS.alloc ?_|with_reducible refine DS.drew ?_|((with_reducible refine DS.setCell ?_ ?_ ?_);rotate_left;(focus ((try simp);(try omega)));(focus ((try simp);(try omega)))))))  (by omega) (by omega)).mono ?_;rintro _ w4 ⟨⟨z,rfl,hz0,hz1⟩,hdw4,hgw4⟩;have hGw4:Gr g w w4:=gT (by (repeat (first|with_reducible assumption|with_reducible exact gR _ _|with_reducible refine gA ?_|with_reducible refine gD ?_|((with_reducible refine gS ?_ (.inr ?_));rotate_left;(focus ((try simp);(try omega))))))) hgw4;have hlw4:=hdw4.lt;have hsw4:=hgw4.size;(try (simp at hsw4))
      obtain ⟨j,rfl⟩:=Int.eq_ofNat_of_zero_le hz0
      have hjn:j<n:=by omega
      clear hz0 hz1 cpos ci0 ci1 lg hi_k
      have hsw4:=hgw4.size;(try (simp at hsw4));have zz:=gQ hgw4 (b:=b) m_b;(first|(simp [go_sem,z_b,l_b] at zz)|(simp [go_sem] at zz));(try clear x_b f_b);(try clear z_b);have z_b:=zz;clear zz;(try clear l_b);obtain ⟨x_b,f_b,l_b⟩:=bO z_b;have zz:=gQ hgw4 (b:=w.heap.size) m_w;(first|(simp [go_sem,z_w,l_w] at zz)|(simp [go_sem] at zz));(try clear x_w f_w);(try clear z_w);have z_w:=zz;clear zz;(try clear l_w);obtain ⟨x_w,f_w,l_w⟩:=bO z_w;have zz:=gQ hgw4 (b:=w.heap.size+1) m_wp;(first|(simp [go_sem,z_wp,l_wp] at zz)|(simp [go_sem] at zz));(try clear x_wp f_wp);(try clear z_wp);have z_wp:=zz;clear zz;(try clear l_wp);obtain ⟨x_wp,f_wp,l_wp⟩:=bO z_wp
      have OW4:=OW.gr hgw4 (by omega)
      clear OW
      have OW:=OW4
      clear OW4
      have hi_j:j<y.hands.length:=by rw [hy.len];exact hjn
      obtain ⟨gh,gq,eg,_,lg,hgc,_⟩:=OHands.open1 OW.2.2.1 hi_j
      simp at eg
      obtain ⟨rfl,rfl⟩:=eg
      have cpos:=(hgc 0 (by omega)).trans (show _=some (.int .i64 (handAt y j).pos) by simp [handAt,hvals,Array.getD])
      simp only [Nat.add_zero] at cpos
      have ci0:(0:Int)≤(j:Int):=by omega
      have ci1:(j:Int)<(y.hands.length:Int):=by omega
      clear hgc
      go_upto_if 54 with fail
      go_cut [] (fun wx=>LS w B g n b wx)
      case first =>
        by_cases hp0:(handAt y j).pos=0
        · have hp0b:((handAt y j).pos == 0)=true:=by simpa using hp0
          clear hp0
          go_wp2_with fail
          go_region_with (first|(go_at_call 52;refine (l4Draw_any B g _ (by (repeat (first|with_reducible assumption|with_reducible refine DS.alloc ?_|with_reducible refine DS.drew ?_|((with_reducible first|refine DS.setCell ?_ ?_ ?_|refine DS.box ?_ ?_ ?_);rotate_left;(focus ((try simp);(try omega)));(focus ((try simp);(try omega)))))))).mono ?_;rintro _ w6 ⟨⟨kk,ee,rfl,_⟩,hd6,hg6⟩;have hG6:Gr g w w6:=gT (by (repeat (first|with_reducible assumption|with_reducible exact gR _ _|with_reducible refine gA ?_|with_reducible refine gD ?_|((with_reducible first|refine gS ?_ (.inr ?_)|refine gBx ?_ (.inr ?_));rotate_left;(focus ((try simp);(try omega))))))) hg6;have hsw6:=hg6.size;(try (simp at hsw6));have zz:=gQ hg6 (b:=b) m_b;(first|(simp [go_sem,z_b,l_b] at zz)|(simp [go_sem] at zz));(try clear x_b f_b);(try clear z_b);have z_b:=zz;clear zz;(try clear l_b);obtain ⟨x_b,f_b,l_b⟩:=bO z_b;have zz:=gQ hg6 (b:=w.heap.size) m_w;(first|(simp [go_sem,z_w,l_w] at zz)|(simp [go_sem] at zz));(try clear x_w f_w);(try clear z_w);have z_w:=zz;clear zz;(try clear l_w);obtain ⟨x_w,f_w,l_w⟩:=bO z_w;have zz:=gQ hg6 (b:=w.heap.size+1) m_wp;(first|(simp [go_sem,z_wp,l_wp] at zz)|(simp [go_sem] at zz));(try clear x_wp f_wp);(try clear z_wp);have z_wp:=zz;clear zz;(try clear l_wp);obtain ⟨x_wp,f_wp,l_wp⟩:=bO z_wp;have OW6:=WOwn.gr (WOwn.drew OW) hg6 (by omega))|(go_at_call 51;refine (asked_own y j kk ee a1 a2 (some ⟨gh,0,none⟩) a4 c1 c2 c3 c4 _ _ OW6 hy.right).mono ?_;rintro _ w7 ⟨⟨u1,u2,u3,u4,rfl,uo⟩,hbw7⟩;have hdw7:DS w7 B g:=DS.below (by (repeat (first|with_reducible assumption|with_reducible refine DS.alloc ?_|with_reducible refine DS.drew ?_|((with_reducible first|refine DS.setCell ?_ ?_ ?_|refine DS.box ?_ ?_ ?_);rotate_left;(focus ((try simp);(try omega)));(focus ((try simp);(try omega))))))) hbw7;have hGw7:Gr g w w7:=gB (w:=w) (by (repeat (first|with_reducible assumption|with_reducible exact gR _ _|with_reducible refine gA ?_|with_reducible refine gD ?_|((with_reducible first|refine gS ?_ (.inr ?_)|refine gBx ?_ (.inr ?_));rotate_left;(focus ((try simp);(try omega))))))) hbw7;have NU:=uo.ne (b:=b) (by (try simp) <;> omega);have UL:=uo.lo (lo':=w.heap.size+2) (by (try simp) <;> omega);have hsw7:=hbw7.size;(try (simp at hsw7));have zz:=hQ hbw7 (b:=b);(first|(simp [go_sem,z_b,l_b] at zz)|(simp [go_sem] at zz));(try clear x_b f_b);(try clear z_b);have z_b:=zz;clear zz;(try clear l_b);obtain ⟨x_b,f_b,l_b⟩:=bO z_b;have zz:=hQ hbw7 (b:=w.heap.size);(first|(simp [go_sem,z_w,l_w] at zz)|(simp [go_sem] at zz));(try clear x_w f_w);(try clear z_w);have z_w:=zz;clear zz;(try clear l_w);obtain ⟨x_w,f_w,l_w⟩:=bO z_w;have zz:=hQ hbw7 (b:=w.heap.size+1);(first|(simp [go_sem,z_wp,l_wp] at zz)|(simp [go_sem] at zz));(try clear x_wp f_wp);(try clear z_wp);have z_wp:=zz;clear zz;(try clear l_wp);obtain ⟨x_wp,f_wp,l_wp⟩:=bO z_wp;have GW:=hy.asked (k:=kk) (e:=ee) (hy.task hjn);clear uo;generalize (asked y j kk ee).1=y1 at *;obtain ⟨e1,e2,e3,e4,q1,q2,q3,q4,rfl,rfl,rfl,rfl,_⟩:=UL.opens))
          all_goals (go_wp2_with fail)
          all_goals go_meet
          all_goals exact ⟨⟨_,_,_,_,_,GW,by (repeat (first|with_reducible assumption|with_reducible refine WOwn.alloc ?_ _|with_reducible refine WOwn.drew ?_|((with_reducible refine WOwn.store ?_ ?_ _);rotate_left;(focus (first|exact NU))))),NU,by simp [go_sem, *]⟩,by simp [go_sem, *],by simp [go_sem, *],by (repeat (first|with_reducible assumption|with_reducible refine DS.alloc ?_|with_reducible refine DS.drew ?_|((with_reducible first|refine DS.setCell ?_ ?_ ?_|refine DS.box ?_ ?_ ?_);rotate_left;(focus ((try simp);(try omega)));(focus ((try simp);(try omega)))))),by (repeat (first|with_reducible assumption|with_reducible exact gR _ _|with_reducible refine gA ?_|with_reducible refine gD ?_|((with_reducible first|refine gS ?_ (.inr ?_)|refine gBx ?_ (.inr ?_));rotate_left;(focus ((try simp);(try omega))))))⟩
        · have hp0b:((handAt y j).pos == 0)=false:=by simpa using hp0
          clear hp0
          go_wp2_with fail
          go_meet
          exact ⟨⟨y,_,_,_,_,hy,OW,hoff,z_b⟩,z_w,z_wp,by (repeat (first|with_reducible assumption|with_reducible refine DS.alloc ?_|with_reducible refine DS.drew ?_|((with_reducible first|refine DS.setCell ?_ ?_ ?_|refine DS.box ?_ ?_ ?_);rotate_left;(focus ((try simp);(try omega)));(focus ((try simp);(try omega)))))),by (repeat (first|with_reducible assumption|with_reducible exact gR _ _|with_reducible refine gA ?_|with_reducible refine gD ?_|((with_reducible first|refine gS ?_ (.inr ?_)|refine gBx ?_ (.inr ?_));rotate_left;(focus ((try simp);(try omega))))))⟩
      case rest =>
        clear z_b x_b f_b l_b z_w x_w f_w l_w z_wp x_wp f_wp l_wp OW hoff
        (try clear cpos ci0 ci1 lg hi_j)
        (try clear cpos ci0 ci1 lg hi_k)
        (try clear hdw4 hgw4 hGw4 hlw4)
        (try clear hpb)
        (try clear hn1 hn2 hn6)
        clear hy hd hG hl
        have hLS:=hcut
        clear hcut
        obtain ⟨w5,hw⟩:∃ x,x=wc:=⟨_,rfl⟩
        rw [← hw] at hLS ⊢
        clear hw
        obtain ⟨⟨y,v1,v2,v3,v4,hy,hown,hoff,z_b⟩,z_w,z_wp,hd,hG⟩:=hLS
        obtain ⟨a1,a2,a3,a4,c1,c2,c3,c4,rfl,rfl,rfl,rfl,_⟩:=hown.opens
        obtain ⟨x_b,f_b,l_b⟩:=bO z_b
        obtain ⟨x_w,f_w,l_w⟩:=bO z_w
        obtain ⟨x_wp,f_wp,l_wp⟩:=bO z_wp
        have OW:=hown
        have hl:=hd.lt
        clear hown
        go_upto_region 10 with fail
        go_cut [] (fun wx=>LS w B g n b wx)
        case first =>
          go_wp2_with fail
          refine (step_own y j a1 a2 a3 a4 c1 c2 c3 c4 _ _ OW hy.right (hy.task hjn)).mono ?_
          rintro _ w6 ⟨⟨u1,u2,u3,u4,rfl,uo⟩,hbw6⟩
          have hdw6:DS w6 B g:=DS.below (by (repeat (first|with_reducible assumption|with_reducible refine DS.alloc ?_|with_reducible refine DS.drew ?_|((with_reducible first|refine DS.setCell ?_ ?_ ?_|refine DS.box ?_ ?_ ?_);rotate_left;(focus ((try simp);(try omega)));(focus ((try simp);(try omega))))))) hbw6
          have hGw6:Gr g w w6:=gB (w:=w) (by (repeat (first|with_reducible assumption|with_reducible exact gR _ _|with_reducible refine gA ?_|with_reducible refine gD ?_|((with_reducible first|refine gS ?_ (.inr ?_)|refine gBx ?_ (.inr ?_));rotate_left;(focus ((try simp);(try omega))))))) hbw6
          have NU:=uo.ne (b:=b) (by (try simp) <;> omega)
          have UL:=uo.lo (lo':=w.heap.size+2) (by (try simp) <;> omega)
          have hsw6:=hbw6.size;(try (simp at hsw6));have zz:=hQ hbw6 (b:=b);(first|(simp [go_sem,z_b,l_b] at zz)|(simp [go_sem] at zz));(try clear x_b f_b);(try clear z_b);have z_b:=zz;clear zz;(try clear l_b);obtain ⟨x_b,f_b,l_b⟩:=bO z_b;have zz:=hQ hbw6 (b:=w.heap.size);(first|(simp [go_sem,z_w,l_w] at zz)|(simp [go_sem] at zz));(try clear x_w f_w);(try clear z_w);have z_w:=zz;clear zz;(try clear l_w);obtain ⟨x_w,f_w,l_w⟩:=bO z_w;have zz:=hQ hbw6 (b:=w.heap.size+1);(first|(simp [go_sem,z_wp,l_wp] at zz)|(simp [go_sem] at zz));(try clear x_wp f_wp);(try clear z_wp);have z_wp:=zz;clear zz;(try clear l_wp);obtain ⟨x_wp,f_wp,l_wp⟩:=bO z_wp
          have GW:=hy.step (hy.task hjn)
          clear uo
          generalize (step11 y j).1=y1 at *
          obtain ⟨e1,e2,e3,e4,q1,q2,q3,q4,rfl,rfl,rfl,rfl,_⟩:=UL.opens
          go_wp2_with fail
          go_meet
          exact ⟨⟨_,_,_,_,_,GW,by (repeat (first|with_reducible assumption|with_reducible refine WOwn.alloc ?_ _|with_reducible refine WOwn.drew ?_|((with_reducible refine WOwn.store ?_ ?_ _);rotate_left;(focus (first|exact NU))))),NU,by simp [go_sem, *]⟩,by simp [go_sem, *],by simp [go_sem, *],by (repeat (first|with_reducible assumption|with_reducible refine DS.alloc ?_|with_reducible refine DS.drew ?_|((with_reducible first|refine DS.setCell ?_ ?_ ?_|refine DS.box ?_ ?_ ?_);rotate_left;(focus ((try simp);(try omega)));(focus ((try simp);(try omega)))))),by (repeat (first|with_reducible assumption|with_reducible exact gR _ _|with_reducible refine gA ?_|with_reducible refine gD ?_|((with_reducible first|refine gS ?_ (.inr ?_)|refine gBx ?_ (.inr ?_));rotate_left;(focus ((try simp);(try omega))))))⟩
        case rest =>
          clear z_b x_b f_b l_b z_w x_w f_w l_w z_wp x_wp f_wp l_wp OW hoff
          (try clear cpos ci0 ci1 lg hi_j)
          (try clear cpos ci0 ci1 lg hi_k)
          (try clear hdw4 hgw4 hGw4 hlw4)
          (try clear hpb)
          (try clear hn1 hn2 hn6)
          clear hy hd hG hl
          have hLS:=hcut
          clear hcut
          obtain ⟨w7,hw⟩:∃ x,x=wc:=⟨_,rfl⟩
          rw [← hw] at hLS ⊢
          clear hw
          obtain ⟨⟨y,v1,v2,v3,v4,hy,hown,hoff,z_b⟩,z_w,z_wp,hd,hG⟩:=hLS
          obtain ⟨a1,a2,a3,a4,c1,c2,c3,c4,rfl,rfl,rfl,rfl,_⟩:=hown.opens
          obtain ⟨x_b,f_b,l_b⟩:=bO z_b
          obtain ⟨x_w,f_w,l_w⟩:=bO z_w
          obtain ⟨x_wp,f_wp,l_wp⟩:=bO z_wp
          have OW:=hown
          have hl:=hd.lt
          clear hown
          have hi_k:k<y.hands.length:=by rw [hy.len];exact hkn
          obtain ⟨gh,gq,eg,_,lg,hgc,_⟩:=OHands.open1 OW.2.2.1 hi_k
          simp at eg
          obtain ⟨rfl,rfl⟩:=eg
          have cpos:=(hgc 0 (by omega)).trans (show _=some (.int .i64 (handAt y k).pos) by simp [handAt,hvals,Array.getD])
          simp only [Nat.add_zero] at cpos
          have ci0:(0:Int)≤(k:Int):=by omega
          have ci1:(k:Int)<(y.hands.length:Int):=by omega
          clear hgc
          go_upto_if 75 with fail
          go_cut [] (fun wx=>LS w B g n b wx)
          case first =>
            by_cases hp0:(handAt y k).pos=0
            · have hp0b:((handAt y k).pos == 0)=true:=by simpa using hp0
              clear hp0
              go_wp2_with fail;refine (l4Draw_any B g  _ (by (repeat (first|with_reducible assumption|with_reducible refine DS.alloc ?_|with_reducible refine DS.drew ?_|((with_reducible refine DS.setCell ?_ ?_ ?_);rotate_left;(focus ((try simp);(try omega)));(focus ((try simp);(try omega))))))) ).mono ?_;rintro _ w8 ⟨⟨kk,ee,rfl,_⟩,hdw8,hgw8⟩;have hGw8:Gr g w w8:=gT (by (repeat (first|with_reducible assumption|with_reducible exact gR _ _|with_reducible refine gA ?_|with_reducible refine gD ?_|((with_reducible refine gS ?_ (.inr ?_));rotate_left;(focus ((try simp);(try omega))))))) hgw8;have hlw8:=hdw8.lt;have hsw8:=hgw8.size;(try (simp at hsw8))
              have hsw8:=hgw8.size;(try (simp at hsw8));have zz:=gQ hgw8 (b:=b) m_b;(first|(simp [go_sem,z_b,l_b] at zz)|(simp [go_sem] at zz));(try clear x_b f_b);(try clear z_b);have z_b:=zz;clear zz;(try clear l_b);obtain ⟨x_b,f_b,l_b⟩:=bO z_b;have zz:=gQ hgw8 (b:=w.heap.size) m_w;(first|(simp [go_sem,z_w,l_w] at zz)|(simp [go_sem] at zz));(try clear x_w f_w);(try clear z_w);have z_w:=zz;clear zz;(try clear l_w);obtain ⟨x_w,f_w,l_w⟩:=bO z_w;have zz:=gQ hgw8 (b:=w.heap.size+1) m_wp;(first|(simp [go_sem,z_wp,l_wp] at zz)|(simp [go_sem] at zz));(try clear x_wp f_wp);(try clear z_wp);have z_wp:=zz;clear zz;(try clear l_wp);obtain ⟨x_wp,f_wp,l_wp⟩:=bO z_wp
              have OW8:=OW.gr hgw8 (by omega)
              have m_w8:some w8.heap.size≠some g:=by simp;omega
              have n_b8:b<w8.heap.size:=l_b
              have n_w8:w.heap.size<w8.heap.size:=l_w
              have n_wp8:w.heap.size+1<w8.heap.size:=l_wp
              have NX:=OW8.ne' (Nat.le_refl _)
              rcases hcode with rfl|rfl|rfl
              · skip
                go_wp2_with fail
                refine (asked_own y k kk ee a1 a2 (some ⟨gh,0,none⟩) a4 c1 c2 c3 c4 (w.heap.size+2) _ ?_ hy.right).mono ?_
                · (repeat (first|with_reducible assumption|with_reducible refine WOwn.alloc ?_ _|with_reducible refine WOwn.drew ?_|((with_reducible refine WOwn.store ?_ ?_ _);rotate_left;(focus (first|exact NX)))))
                rintro _ w9 ⟨⟨u1,u2,u3,u4,rfl,uo⟩,hbw9⟩
                have hdw9:DS w9 B g:=DS.below (by (repeat (first|with_reducible assumption|with_reducible refine DS.alloc ?_|with_reducible refine DS.drew ?_|((with_reducible first|refine DS.setCell ?_ ?_ ?_|refine DS.box ?_ ?_ ?_);rotate_left;(focus ((try simp);(try omega)));(focus ((try simp);(try omega))))))) hbw9
                have hGw9:Gr g w w9:=gB (w:=w) (by (repeat (first|with_reducible assumption|with_reducible exact gR _ _|with_reducible refine gA ?_|with_reducible refine gD ?_|((with_reducible first|refine gS ?_ (.inr ?_)|refine gBx ?_ (.inr ?_));rotate_left;(focus ((try simp);(try omega))))))) hbw9
                have NU:=uo.ne (b:=b) (by (try simp) <;> omega)
                have UL:=uo.lo (lo':=w.heap.size+2) (by (try simp) <;> omega)
                have hsw9:=hbw9.size;(try (simp at hsw9));have zz:=hQ hbw9 (b:=b);(first|(simp [go_sem,z_b,l_b] at zz)|(simp [go_sem] at zz));(try clear x_b f_b);(try clear z_b);have z_b:=zz;clear zz;(try clear l_b);obtain ⟨x_b,f_b,l_b⟩:=bO z_b;have zz:=hQ hbw9 (b:=w.heap.size);(first|(simp [go_sem,z_w,l_w] at zz)|(simp [go_sem] at zz));(try clear x_w f_w);(try clear z_w);have z_w:=zz;clear zz;(try clear l_w);obtain ⟨x_w,f_w,l_w⟩:=bO z_w;have zz:=hQ hbw9 (b:=w.heap.size+1);(first|(simp [go_sem,z_wp,l_wp] at zz)|(simp [go_sem] at zz));(try clear x_wp f_wp);(try clear z_wp);have z_wp:=zz;clear zz;(try clear l_wp);obtain ⟨x_wp,f_wp,l_wp⟩:=bO z_wp
                have GW:=hy.asked (k:=kk) (e:=ee) (hy.task hkn)
                clear uo
                generalize (asked y k kk ee).1=y1 at *
                obtain ⟨e1,e2,e3,e4,q1,q2,q3,q4,rfl,rfl,rfl,rfl,_⟩:=UL.opens
                go_wp2_with fail
                go_meet
                exact ⟨⟨_,_,_,_,_,GW,by (repeat (first|with_reducible assumption|with_reducible refine WOwn.alloc ?_ _|with_reducible refine WOwn.drew ?_|((with_reducible refine WOwn.store ?_ ?_ _);rotate_left;(focus (first|exact NU))))),NU,by simp [go_sem, *]⟩,by simp [go_sem, *],by simp [go_sem, *],by (repeat (first|with_reducible assumption|with_reducible refine DS.alloc ?_|with_reducible refine DS.drew ?_|((with_reducible first|refine DS.setCell ?_ ?_ ?_|refine DS.box ?_ ?_ ?_);rotate_left;(focus ((try simp);(try omega)));(focus ((try simp);(try omega)))))),by (repeat (first|with_reducible assumption|with_reducible exact gR _ _|with_reducible refine gA ?_|with_reducible refine gD ?_|((with_reducible first|refine gS ?_ (.inr ?_)|refine gBx ?_ (.inr ?_));rotate_left;(focus ((try simp);(try omega))))))⟩
              · go_wp2_with fail;refine (l1Below_any B g 50  _ (by (repeat (first|with_reducible assumption|with_reducible refine DS.alloc ?_|with_reducible refine DS.drew ?_|((with_reducible refine DS.setCell ?_ ?_ ?_);rotate_left;(focus ((try simp);(try omega)));(focus ((try simp);(try omega)))))))  (by omega) (by omega)).mono ?_;rintro _ w9 ⟨⟨r,rfl,_,_⟩,hdw9,hgw9⟩;have hGw9:Gr g w w9:=gT (by (repeat (first|with_reducible assumption|with_reducible exact gR _ _|with_reducible refine gA ?_|with_reducible refine gD ?_|((with_reducible refine gS ?_ (.inr ?_));rotate_left;(focus ((try simp);(try omega))))))) hgw9;have hlw9:=hdw9.lt;have hsw9:=hgw9.size;(try (simp at hsw9))
                have hsw9:=hgw9.size;(try (simp at hsw9));have zz:=gQ hgw9 (b:=b) m_b;(first|(simp [go_sem,z_b,l_b] at zz)|(simp [go_sem] at zz));(try clear x_b f_b);(try clear z_b);have z_b:=zz;clear zz;(try clear l_b);obtain ⟨x_b,f_b,l_b⟩:=bO z_b;have zz:=gQ hgw9 (b:=w.heap.size) m_w;(first|(simp [go_sem,z_w,l_w] at zz)|(simp [go_sem] at zz));(try clear x_w f_w);(try clear z_w);have z_w:=zz;clear zz;(try clear l_w);obtain ⟨x_w,f_w,l_w⟩:=bO z_w;have zz:=gQ hgw9 (b:=w.heap.size+1) m_wp;(first|(simp [go_sem,z_wp,l_wp] at zz)|(simp [go_sem] at zz));(try clear x_wp f_wp);(try clear z_wp);have z_wp:=zz;clear zz;(try clear l_wp);obtain ⟨x_wp,f_wp,l_wp⟩:=bO z_wp;have zz:=gQ hgw9 (b:=w8.heap.size) m_w8;(first|(simp [go_sem,z_w8,l_w8] at zz)|(simp [go_sem] at zz));(try clear x_w8 f_w8);(try clear z_w8);have z_w8:=zz;clear zz;(try clear l_w8);obtain ⟨x_w8,f_w8,l_w8⟩:=bO z_w8
                have OW9:=WOwn.gr (WOwn.alloc OW8 _) hgw9 (by omega)
                go_wp2_with fail
                refine (asked_own y k 1 r a1 a2 (some ⟨gh,0,none⟩) a4 c1 c2 c3 c4 (w.heap.size+2) _ ?_ hy.right).mono ?_
                · (repeat (first|with_reducible assumption|with_reducible refine WOwn.alloc ?_ _|with_reducible refine WOwn.drew ?_|((with_reducible refine WOwn.store ?_ ?_ _);rotate_left;(focus (first|exact NX)))))
                rintro _ w10 ⟨⟨u1,u2,u3,u4,rfl,uo⟩,hbw10⟩
                have hdw10:DS w10 B g:=DS.below (by (repeat (first|with_reducible assumption|with_reducible refine DS.alloc ?_|with_reducible refine DS.drew ?_|((with_reducible first|refine DS.setCell ?_ ?_ ?_|refine DS.box ?_ ?_ ?_);rotate_left;(focus ((try simp);(try omega)));(focus ((try simp);(try omega))))))) hbw10
                have hGw10:Gr g w w10:=gB (w:=w) (by (repeat (first|with_reducible assumption|with_reducible exact gR _ _|with_reducible refine gA ?_|with_reducible refine gD ?_|((with_reducible first|refine gS ?_ (.inr ?_)|refine gBx ?_ (.inr ?_));rotate_left;(focus ((try simp);(try omega))))))) hbw10
                have NU:=uo.ne (b:=b) (by (try simp) <;> omega)
                have UL:=uo.lo (lo':=w.heap.size+2) (by (try simp) <;> omega)
                have hsw10:=hbw10.size;(try (simp at hsw10));have zz:=hQ hbw10 (b:=b);(first|(simp [go_sem,z_b,l_b,n_b8,n_w8,n_wp8] at zz)|(simp [go_sem,n_b8,n_w8,n_wp8] at zz));(try clear x_b f_b);(try clear z_b);have z_b:=zz;clear zz;(try clear l_b);obtain ⟨x_b,f_b,l_b⟩:=bO z_b;have zz:=hQ hbw10 (b:=w.heap.size);(first|(simp [go_sem,z_w,l_w,n_b8,n_w8,n_wp8] at zz)|(simp [go_sem,n_b8,n_w8,n_wp8] at zz));(try clear x_w f_w);(try clear z_w);have z_w:=zz;clear zz;(try clear l_w);obtain ⟨x_w,f_w,l_w⟩:=bO z_w;have zz:=hQ hbw10 (b:=w.heap.size+1);(first|(simp [go_sem,z_wp,l_wp,n_b8,n_w8,n_wp8] at zz)|(simp [go_sem,n_b8,n_w8,n_wp8] at zz));(try clear x_wp f_wp);(try clear z_wp);have z_wp:=zz;clear zz;(try clear l_wp);obtain ⟨x_wp,f_wp,l_wp⟩:=bO z_wp
                have GW:=hy.asked (k:=1) (e:=r) (hy.task hkn)
                clear uo
                generalize (asked y k 1 r).1=y1 at *
                obtain ⟨e1,e2,e3,e4,q1,q2,q3,q4,rfl,rfl,rfl,rfl,_⟩:=UL.opens
                go_wp2_with fail
                go_meet
                exact ⟨⟨_,_,_,_,_,GW,by (repeat (first|with_reducible assumption|with_reducible refine WOwn.alloc ?_ _|with_reducible refine WOwn.drew ?_|((with_reducible refine WOwn.store ?_ ?_ _);rotate_left;(focus (first|exact NU))))),NU,by simp [go_sem, *]⟩,by simp [go_sem, *],by simp [go_sem, *],by (repeat (first|with_reducible assumption|with_reducible refine DS.alloc ?_|with_reducible refine DS.drew ?_|((with_reducible first|refine DS.setCell ?_ ?_ ?_|refine DS.box ?_ ?_ ?_);rotate_left;(focus ((try simp);(try omega)));(focus ((try simp);(try omega)))))),by (repeat (first|with_reducible assumption|with_reducible exact gR _ _|with_reducible refine gA ?_|with_reducible refine gD ?_|((with_reducible first|refine gS ?_ (.inr ?_)|refine gBx ?_ (.inr ?_));rotate_left;(focus ((try simp);(try omega))))))⟩
              · go_wp2_with fail;refine (l1Below_any B g 50  _ (by (repeat (first|with_reducible assumption|with_reducible refine DS.alloc ?_|with_reducible refine DS.drew ?_|((with_reducible refine DS.setCell ?_ ?_ ?_);rotate_left;(focus ((try simp);(try omega)));(focus ((try simp);(try omega)))))))  (by omega) (by omega)).mono ?_;rintro _ w9 ⟨⟨r,rfl,_,_⟩,hdw9,hgw9⟩;have hGw9:Gr g w w9:=gT (by (repeat (first|with_reducible assumption|with_reducible exact gR _ _|with_reducible refine gA ?_|with_reducible refine gD ?_|((with_reducible refine gS ?_ (.inr ?_));rotate_left;(focus ((try simp);(try omega))))))) hgw9;have hlw9:=hdw9.lt;have hsw9:=hgw9.size;(try (simp at hsw9))
                have hsw9:=hgw9.size;(try (simp at hsw9));have zz:=gQ hgw9 (b:=b) m_b;(first|(simp [go_sem,z_b,l_b] at zz)|(simp [go_sem] at zz));(try clear x_b f_b);(try clear z_b);have z_b:=zz;clear zz;(try clear l_b);obtain ⟨x_b,f_b,l_b⟩:=bO z_b;have zz:=gQ hgw9 (b:=w.heap.size) m_w;(first|(simp [go_sem,z_w,l_w] at zz)|(simp [go_sem] at zz));(try clear x_w f_w);(try clear z_w);have z_w:=zz;clear zz;(try clear l_w);obtain ⟨x_w,f_w,l_w⟩:=bO z_w;have zz:=gQ hgw9 (b:=w.heap.size+1) m_wp;(first|(simp [go_sem,z_wp,l_wp] at zz)|(simp [go_sem] at zz));(try clear x_wp f_wp);(try clear z_wp);have z_wp:=zz;clear zz;(try clear l_wp);obtain ⟨x_wp,f_wp,l_wp⟩:=bO z_wp;have zz:=gQ hgw9 (b:=w8.heap.size) m_w8;(first|(simp [go_sem,z_w8,l_w8] at zz)|(simp [go_sem] at zz));(try clear x_w8 f_w8);(try clear z_w8);have z_w8:=zz;clear zz;(try clear l_w8);obtain ⟨x_w8,f_w8,l_w8⟩:=bO z_w8
                have OW9:=WOwn.gr (WOwn.alloc OW8 _) hgw9 (by omega)
                go_wp2_with fail
                refine (asked_own y k 2 0 a1 a2 (some ⟨gh,0,none⟩) a4 c1 c2 c3 c4 (w.heap.size+2) _ ?_ hy.right).mono ?_
                · (repeat (first|with_reducible assumption|with_reducible refine WOwn.alloc ?_ _|with_reducible refine WOwn.drew ?_|((with_reducible refine WOwn.store ?_ ?_ _);rotate_left;(focus (first|exact NX)))))
                rintro _ w10 ⟨⟨u1,u2,u3,u4,rfl,uo⟩,hbw10⟩
                have hdw10:DS w10 B g:=DS.below (by (repeat (first|with_reducible assumption|with_reducible refine DS.alloc ?_|with_reducible refine DS.drew ?_|((with_reducible first|refine DS.setCell ?_ ?_ ?_|refine DS.box ?_ ?_ ?_);rotate_left;(focus ((try simp);(try omega)));(focus ((try simp);(try omega))))))) hbw10
                have hGw10:Gr g w w10:=gB (w:=w) (by (repeat (first|with_reducible assumption|with_reducible exact gR _ _|with_reducible refine gA ?_|with_reducible refine gD ?_|((with_reducible first|refine gS ?_ (.inr ?_)|refine gBx ?_ (.inr ?_));rotate_left;(focus ((try simp);(try omega))))))) hbw10
                have NU:=uo.ne (b:=b) (by (try simp) <;> omega)
                have UL:=uo.lo (lo':=w.heap.size+2) (by (try simp) <;> omega)
                have hsw10:=hbw10.size;(try (simp at hsw10));have zz:=hQ hbw10 (b:=b);(first|(simp [go_sem,z_b,l_b,n_b8,n_w8,n_wp8] at zz)|(simp [go_sem,n_b8,n_w8,n_wp8] at zz));(try clear x_b f_b);(try clear z_b);have z_b:=zz;clear zz;(try clear l_b);obtain ⟨x_b,f_b,l_b⟩:=bO z_b;have zz:=hQ hbw10 (b:=w.heap.size);(first|(simp [go_sem,z_w,l_w,n_b8,n_w8,n_wp8] at zz)|(simp [go_sem,n_b8,n_w8,n_wp8] at zz));(try clear x_w f_w);(try clear z_w);have z_w:=zz;clear zz;(try clear l_w);obtain ⟨x_w,f_w,l_w⟩:=bO z_w;have zz:=hQ hbw10 (b:=w.heap.size+1);(first|(simp [go_sem,z_wp,l_wp,n_b8,n_w8,n_wp8] at zz)|(simp [go_sem,n_b8,n_w8,n_wp8] at zz));(try clear x_wp f_wp);(try clear z_wp);have z_wp:=zz;clear zz;(try clear l_wp);obtain ⟨x_wp,f_wp,l_wp⟩:=bO z_wp
                have GW:=hy.asked (k:=2) (e:=0) (hy.task hkn)
                clear uo
                generalize (asked y k 2 0).1=y1 at *
                obtain ⟨e1,e2,e3,e4,q1,q2,q3,q4,rfl,rfl,rfl,rfl,_⟩:=UL.opens
                go_wp2_with fail
                go_meet
                exact ⟨⟨_,_,_,_,_,GW,by (repeat (first|with_reducible assumption|with_reducible refine WOwn.alloc ?_ _|with_reducible refine WOwn.drew ?_|((with_reducible refine WOwn.store ?_ ?_ _);rotate_left;(focus (first|exact NU))))),NU,by simp [go_sem, *]⟩,by simp [go_sem, *],by simp [go_sem, *],by (repeat (first|with_reducible assumption|with_reducible refine DS.alloc ?_|with_reducible refine DS.drew ?_|((with_reducible first|refine DS.setCell ?_ ?_ ?_|refine DS.box ?_ ?_ ?_);rotate_left;(focus ((try simp);(try omega)));(focus ((try simp);(try omega)))))),by (repeat (first|with_reducible assumption|with_reducible exact gR _ _|with_reducible refine gA ?_|with_reducible refine gD ?_|((with_reducible first|refine gS ?_ (.inr ?_)|refine gBx ?_ (.inr ?_));rotate_left;(focus ((try simp);(try omega))))))⟩
            · have hp0b:((handAt y k).pos == 0)=false:=by simpa using hp0
              clear hp0
              go_wp2_with fail
              go_meet
              exact ⟨⟨y,_,_,_,_,hy,OW,hoff,z_b⟩,z_w,z_wp,by (repeat (first|with_reducible assumption|with_reducible refine DS.alloc ?_|with_reducible refine DS.drew ?_|((with_reducible first|refine DS.setCell ?_ ?_ ?_|refine DS.box ?_ ?_ ?_);rotate_left;(focus ((try simp);(try omega)));(focus ((try simp);(try omega)))))),by (repeat (first|with_reducible assumption|with_reducible exact gR _ _|with_reducible refine gA ?_|with_reducible refine gD ?_|((with_reducible first|refine gS ?_ (.inr ?_)|refine gBx ?_ (.inr ?_));rotate_left;(focus ((try simp);(try omega))))))⟩
          case rest =>
            clear z_b x_b f_b l_b z_w x_w f_w l_w z_wp x_wp f_wp l_wp OW hoff
            (try clear cpos ci0 ci1 lg hi_j)
            (try clear cpos ci0 ci1 lg hi_k)
            (try clear hdw4 hgw4 hGw4 hlw4)
            (try clear hpb)
            (try clear hn1 hn2 hn6)
            clear hy hd hG hl
            have hLS:=hcut
            clear hcut
            obtain ⟨w8,hw⟩:∃ x,x=wc:=⟨_,rfl⟩
            rw [← hw] at hLS ⊢
            clear hw
            obtain ⟨⟨y,v1,v2,v3,v4,hy,hown,hoff,z_b⟩,z_w,z_wp,hd,hG⟩:=hLS
            obtain ⟨a1,a2,a3,a4,c1,c2,c3,c4,rfl,rfl,rfl,rfl,_⟩:=hown.opens
            obtain ⟨x_b,f_b,l_b⟩:=bO z_b
            obtain ⟨x_w,f_w,l_w⟩:=bO z_w
            obtain ⟨x_wp,f_wp,l_wp⟩:=bO z_wp
            have OW:=hown
            have hl:=hd.lt
            clear hown
            go_upto_region 16 with fail
            go_cut [] (fun wx=>LS w B g n b wx)
            case first =>
              go_wp2_with fail
              refine (step_own y k a1 a2 a3 a4 c1 c2 c3 c4 _ _ OW hy.right (hy.task hkn)).mono ?_
              rintro _ w9 ⟨⟨u1,u2,u3,u4,rfl,uo⟩,hbw9⟩
              have hdw9:DS w9 B g:=DS.below (by (repeat (first|with_reducible assumption|with_reducible refine DS.alloc ?_|with_reducible refine DS.drew ?_|((with_reducible first|refine DS.setCell ?_ ?_ ?_|refine DS.box ?_ ?_ ?_);rotate_left;(focus ((try simp);(try omega)));(focus ((try simp);(try omega))))))) hbw9
              have hGw9:Gr g w w9:=gB (w:=w) (by (repeat (first|with_reducible assumption|with_reducible exact gR _ _|with_reducible refine gA ?_|with_reducible refine gD ?_|((with_reducible first|refine gS ?_ (.inr ?_)|refine gBx ?_ (.inr ?_));rotate_left;(focus ((try simp);(try omega))))))) hbw9
              have NU:=uo.ne (b:=b) (by (try simp) <;> omega)
              have UL:=uo.lo (lo':=w.heap.size+2) (by (try simp) <;> omega)
              have hsw9:=hbw9.size;(try (simp at hsw9));have zz:=hQ hbw9 (b:=b);(first|(simp [go_sem,z_b,l_b] at zz)|(simp [go_sem] at zz));(try clear x_b f_b);(try clear z_b);have z_b:=zz;clear zz;(try clear l_b);obtain ⟨x_b,f_b,l_b⟩:=bO z_b;have zz:=hQ hbw9 (b:=w.heap.size);(first|(simp [go_sem,z_w,l_w] at zz)|(simp [go_sem] at zz));(try clear x_w f_w);(try clear z_w);have z_w:=zz;clear zz;(try clear l_w);obtain ⟨x_w,f_w,l_w⟩:=bO z_w;have zz:=hQ hbw9 (b:=w.heap.size+1);(first|(simp [go_sem,z_wp,l_wp] at zz)|(simp [go_sem] at zz));(try clear x_wp f_wp);(try clear z_wp);have z_wp:=zz;clear zz;(try clear l_wp);obtain ⟨x_wp,f_wp,l_wp⟩:=bO z_wp
              have GW:=hy.step (hy.task hkn)
              clear uo
              generalize (step11 y k).1=y1 at *
              obtain ⟨e1,e2,e3,e4,q1,q2,q3,q4,rfl,rfl,rfl,rfl,_⟩:=UL.opens
              go_wp2_with fail
              go_meet
              exact ⟨⟨_,_,_,_,_,GW,by (repeat (first|with_reducible assumption|with_reducible refine WOwn.alloc ?_ _|with_reducible refine WOwn.drew ?_|((with_reducible refine WOwn.store ?_ ?_ _);rotate_left;(focus (first|exact NU))))),NU,by simp [go_sem, *]⟩,by simp [go_sem, *],by simp [go_sem, *],by (repeat (first|with_reducible assumption|with_reducible refine DS.alloc ?_|with_reducible refine DS.drew ?_|((with_reducible first|refine DS.setCell ?_ ?_ ?_|refine DS.box ?_ ?_ ?_);rotate_left;(focus ((try simp);(try omega)));(focus ((try simp);(try omega)))))),by (repeat (first|with_reducible assumption|with_reducible exact gR _ _|with_reducible refine gA ?_|with_reducible refine gD ?_|((with_reducible first|refine gS ?_ (.inr ?_)|refine gBx ?_ (.inr ?_));rotate_left;(focus ((try simp);(try omega))))))⟩
            case rest =>
              clear z_b x_b f_b l_b z_w x_w f_w l_w z_wp x_wp f_wp l_wp OW hoff
              (try clear cpos ci0 ci1 lg hi_j)
              (try clear cpos ci0 ci1 lg hi_k)
              (try clear hdw4 hgw4 hGw4 hlw4)
              (try clear hpb)
              (try clear hn1 hn2 hn6)
              clear hy hd hG hl
              have hLS:=hcut
              clear hcut
              obtain ⟨w10,hw⟩:∃ x,x=wc:=⟨_,rfl⟩
              rw [← hw] at hLS ⊢
              clear hw
              obtain ⟨⟨y,v1,v2,v3,v4,hy,hown,hoff,z_b⟩,z_w,z_wp,hd,hG⟩:=hLS
              obtain ⟨a1,a2,a3,a4,c1,c2,c3,c4,rfl,rfl,rfl,rfl,_⟩:=hown.opens
              obtain ⟨x_b,f_b,l_b⟩:=bO z_b
              obtain ⟨x_w,f_w,l_w⟩:=bO z_w
              obtain ⟨x_wp,f_wp,l_wp⟩:=bO z_wp
              have OW:=hown
              have hl:=hd.lt
              clear hown
              go_wp2_with fail;refine (l1Once_any B g 12  _ (by (repeat (first|with_reducible assumption|with_reducible refine DS.alloc ?_|with_reducible refine DS.drew ?_|((with_reducible refine DS.setCell ?_ ?_ ?_);rotate_left;(focus ((try simp);(try omega)));(focus ((try simp);(try omega)))))))  (by omega) (by omega)).mono ?_;rintro _ w11 ⟨⟨y11,rfl⟩,hdw11,hgw11⟩;have hGw11:Gr g w w11:=gT (by (repeat (first|with_reducible assumption|with_reducible exact gR _ _|with_reducible refine gA ?_|with_reducible refine gD ?_|((with_reducible refine gS ?_ (.inr ?_));rotate_left;(focus ((try simp);(try omega))))))) hgw11;have hlw11:=hdw11.lt;have hsw11:=hgw11.size;(try (simp at hsw11))
              have hsw11:=hgw11.size;(try (simp at hsw11));have zz:=gQ hgw11 (b:=b) m_b;(first|(simp [go_sem,z_b,l_b] at zz)|(simp [go_sem] at zz));(try clear x_b f_b);(try clear z_b);have z_b:=zz;clear zz;(try clear l_b);obtain ⟨x_b,f_b,l_b⟩:=bO z_b;have zz:=gQ hgw11 (b:=w.heap.size) m_w;(first|(simp [go_sem,z_w,l_w] at zz)|(simp [go_sem] at zz));(try clear x_w f_w);(try clear z_w);have z_w:=zz;clear zz;(try clear l_w);obtain ⟨x_w,f_w,l_w⟩:=bO z_w;have zz:=gQ hgw11 (b:=w.heap.size+1) m_wp;(first|(simp [go_sem,z_wp,l_wp] at zz)|(simp [go_sem] at zz));(try clear x_wp f_wp);(try clear z_wp);have z_wp:=zz;clear zz;(try clear l_wp);obtain ⟨x_wp,f_wp,l_wp⟩:=bO z_wp
              have OW11:=OW.gr hgw11 (by omega)
              cases y11
              · go_wp2_with fail
                go_roundw
                case rel=>exact ⟨m+1,by go_num,by omega,⟨⟨y,_,_,_,_,hy,OW11,hoff,z_b⟩,z_w,z_wp,by (repeat (first|with_reducible assumption|with_reducible refine DS.alloc ?_|with_reducible refine DS.drew ?_|((with_reducible first|refine DS.setCell ?_ ?_ ?_|refine DS.box ?_ ?_ ?_);rotate_left;(focus ((try simp);(try omega)));(focus ((try simp);(try omega)))))),by (repeat (first|with_reducible assumption|with_reducible exact gR _ _|with_reducible refine gA ?_|with_reducible refine gD ?_|((with_reducible first|refine gS ?_ (.inr ?_)|refine gBx ?_ (.inr ?_));rotate_left;(focus ((try simp);(try omega))))))⟩⟩
                case measure=>simp [intOf];omega
              · skip
                go_wp2_with fail
                refine (stopped_own y j a1 a2 a3 a4 c1 c2 c3 c4 _ _ OW11 hy.right).mono ?_
                rintro _ w12 ⟨⟨u1,u2,u3,u4,rfl,uo⟩,hbw12⟩
                have hdw12:DS w12 B g:=DS.below (by (repeat (first|with_reducible assumption|with_reducible refine DS.alloc ?_|with_reducible refine DS.drew ?_|((with_reducible first|refine DS.setCell ?_ ?_ ?_|refine DS.box ?_ ?_ ?_);rotate_left;(focus ((try simp);(try omega)));(focus ((try simp);(try omega))))))) hbw12
                have hGw12:Gr g w w12:=gB (w:=w) (by (repeat (first|with_reducible assumption|with_reducible exact gR _ _|with_reducible refine gA ?_|with_reducible refine gD ?_|((with_reducible first|refine gS ?_ (.inr ?_)|refine gBx ?_ (.inr ?_));rotate_left;(focus ((try simp);(try omega))))))) hbw12
                have NU:=uo.ne (b:=b) (by (try simp) <;> omega)
                have UL:=uo.lo (lo':=w.heap.size+2) (by (try simp) <;> omega)
                have hsw12:=hbw12.size;(try (simp at hsw12));have zz:=hQ hbw12 (b:=b);(first|(simp [go_sem,z_b,l_b] at zz)|(simp [go_sem] at zz));(try clear x_b f_b);(try clear z_b);have z_b:=zz;clear zz;(try clear l_b);obtain ⟨x_b,f_b,l_b⟩:=bO z_b;have zz:=hQ hbw12 (b:=w.heap.size);(first|(simp [go_sem,z_w,l_w] at zz)|(simp [go_sem] at zz));(try clear x_w f_w);(try clear z_w);have z_w:=zz;clear zz;(try clear l_w);obtain ⟨x_w,f_w,l_w⟩:=bO z_w;have zz:=hQ hbw12 (b:=w.heap.size+1);(first|(simp [go_sem,z_wp,l_wp] at zz)|(simp [go_sem] at zz));(try clear x_wp f_wp);(try clear z_wp);have z_wp:=zz;clear zz;(try clear l_wp);obtain ⟨x_wp,f_wp,l_wp⟩:=bO z_wp
                have GW:=hy.stopped (hy.task hjn)
                clear uo
                generalize (stopped y j).1=y1 at *
                obtain ⟨e1,e2,e3,e4,q1,q2,q3,q4,rfl,rfl,rfl,rfl,_⟩:=UL.opens
                go_wp2_with fail
                go_roundw
                case rel=>exact ⟨m+1,by go_num,by omega,⟨⟨_,_,_,_,_,GW,by (repeat (first|with_reducible assumption|with_reducible refine WOwn.alloc ?_ _|with_reducible refine WOwn.drew ?_|((with_reducible refine WOwn.store ?_ ?_ _);rotate_left;(focus (first|exact NU))))),NU,by simp [go_sem, *]⟩,by simp [go_sem, *],by simp [go_sem, *],by (repeat (first|with_reducible assumption|with_reducible refine DS.alloc ?_|with_reducible refine DS.drew ?_|((with_reducible first|refine DS.setCell ?_ ?_ ?_|refine DS.box ?_ ?_ ?_);rotate_left;(focus ((try simp);(try omega)));(focus ((try simp);(try omega)))))),by (repeat (first|with_reducible assumption|with_reducible exact gR _ _|with_reducible refine gA ?_|with_reducible refine gD ?_|((with_reducible first|refine gS ?_ (.inr ?_)|refine gBx ?_ (.inr ?_));rotate_left;(focus ((try simp);(try omega))))))⟩⟩
                case measure=>simp [intOf];omega
  case rest =>
    obtain ⟨w20,hw⟩:∃ x,x=wc:=⟨_,rfl⟩
    rw [← hw] at hcut ⊢
    clear hw hLS
    rename_i Q' hs0 hr0 K hK
    refine hK _ _ ?_
    clear hK K hr0 hs0 hsw1 hsw2 wc
    revert hf hft ht hcode hl hle m_w m_wp Q' x a1 a2 a3 a4 c1 c2 c3 c4 k at3 hat0 hat1 n hkn b m_b hbw kb0 kb1 u13 u14 u15 u29 u30 u31 u32 u33 u34 u35 u36 u37 u38 u39 u40 u41 u42 u43 u44 u45 u46 u47 u48 u49 u50 u51 u52 u53 u54 u55 u56 u57 u58 u59 u60 u61 u62 u63 u64 u65 u66 u67 u68 u69 u70 u71 u72 u73 u74 u75 u76 u77 u78 u79 u80 u81 u82 u83 u84 u85 u86 u87 u88 u89 u90 u91 u92 u93 u94 u95 u96 u97 u98 u99 u100 u101 u102 u103 u104 u105 u106 u107 w20 hcut
    exact hP.elim fun z=>z.down
  ⟩
set_option maxRecDepth 100000 in
set_option maxHeartbeats 40000000 in
theorem l6DrawB (B g:Nat) (f t code:Int) (w:World):(l6DrawA B g f t code w).1:=by
    intro hf hft ht hcode hl hle m_w m_wp Q' x a1 a2 a3 a4 c1 c2 c3 c4 k at3 hat0 hat1 n hkn b m_b hbw kb0 kb1 u13 u14 u15 u29 u30 u31 u32 u33 u34 u35 u36 u37 u38 u39 u40 u41 u42 u43 u44 u45 u46 u47 u48 u49 u50 u51 u52 u53 u54 u55 u56 u57 u58 u59 u60 u61 u62 u63 u64 u65 u66 u67 u68 u69 u70 u71 u72 u73 u74 u75 u76 u77 u78 u79 u80 u81 u82 u83 u84 u85 u86 u87 u88 u89 u90 u91 u92 u93 u94 u95 u96 u97 u98 u99 u100 u101 u102 u103 u104 u105 u106 u107 w20 hcut
    obtain ⟨⟨y,v1,v2,v3,v4,hy,hown,hoff,z_b⟩,z_w,z_wp,hd,hG⟩:=hcut
    obtain ⟨a1,a2,a3,a4,c1,c2,c3,c4,rfl,rfl,rfl,rfl,_⟩:=hown.opens
    obtain ⟨x_b,f_b,l_b⟩:=bO z_b
    obtain ⟨x_w,f_w,l_w⟩:=bO z_w
    obtain ⟨x_wp,f_wp,l_wp⟩:=bO z_wp
    have hl:=hd.lt
    have OW:=hown
    clear hown hoff
    obtain ⟨hW1,hW0⟩:=hy.words
    have hW2:y.ch.cells.length≤40:=Nat.le_of_eq hW0
    have hW3:40≤y.ch.cells.length:=Nat.le_of_eq hW0.symm
    clear hW0
    have hho:=(hy.right.hs _ (hand_mem (hy.task hkn))).1
    have hi_k:k<y.hands.length:=by rw [hy.len];exact hkn
    obtain ⟨gh,gq,eg,gh0,lg,hgc,_⟩:=OHands.open1 OW.2.2.1 hi_k
    simp at eg
    obtain ⟨rfl,rfl⟩:=eg
    have ci0:(0:Int)≤(k:Int):=by omega
    have ci1:(k:Int)<(y.hands.length:Int):=by omega
    have hLd:∀ W:World,hp W gh=hp w20 gh→(LHand (.pointer (some ⟨gh,k*14,none⟩))).run Tryz.prog W=.ok (.agg (hvals (handAt y k))) W:=fun W e=>ldHandE _ fun j hj=>by rw [show (hvals (handAt y k)).getD j (.int .i64 0)=(hvals (y.hands.getD k Ha.zero)).getD j (.int .i64 0) by simp [handAt],← hgc j hj];exact World.cell?_of_block e
    have hLc:∀ W:World,hp W b=hp w20 b→(LChan (.pointer (some ⟨b,0,none⟩))).run Tryz.prog W=.ok (.agg (cvals y.ch (.slice a1 y.ch.cells.length c1) (.slice a2 y.ch.words.length c2))) W:=fun W e=>by
      exact ldChanE y.ch _ _ fun j hj=>((World.cell?_of_block (show W.heap[b]?=w20.heap[b]? from e)).trans (x_b j)).trans (w9c j hj)
    clear hgc
    generalize handAt y k=hh at hLd hho
    have m_w20:some w20.heap.size≠some g:=by simp;omega
    have m_w20p:some (w20.heap.size+1)≠some g:=by simp;omega
    have ka:w.heap.size<w20.heap.size:=l_w
    have kb:w.heap.size+1<w20.heap.size:=l_wp
    have kc:w.heap.size<w20.heap.size+1:=by omega
    have kd:w.heap.size+1<w20.heap.size+1:=by omega
    go_wp2_with fail;refine (l1Once_any B g 3  _ (by (repeat (first|with_reducible assumption|with_reducible refine DS.alloc ?_|with_reducible refine DS.drew ?_|((with_reducible refine DS.setCell ?_ ?_ ?_);rotate_left;(focus ((try simp);(try omega)));(focus ((try simp);(try omega)))))))  (by omega) (by omega)).mono ?_;rintro _ w21 ⟨⟨y21,rfl⟩,hdw21,hgw21⟩;have hGw21:Gr g w w21:=gT (by (repeat (first|with_reducible assumption|with_reducible exact gR _ _|with_reducible refine gA ?_|with_reducible refine gD ?_|((with_reducible refine gS ?_ (.inr ?_));rotate_left;(focus ((try simp);(try omega))))))) hgw21;have hlw21:=hdw21.lt;have hsw21:=hgw21.size;(try (simp at hsw21))
    have hsw21:=hgw21.size;(try (simp at hsw21));have zz:=gQ hgw21 (b:=w.heap.size) m_w;(first|(simp [go_sem,z_w,l_w,ka,kb,kc,kd] at zz)|(simp [go_sem,ka,kb,kc,kd] at zz));(try clear x_w f_w);(try clear z_w);have z_w:=zz;clear zz;(try clear l_w);obtain ⟨x_w,f_w,l_w⟩:=bO z_w;have zz:=gQ hgw21 (b:=w.heap.size+1) m_wp;(first|(simp [go_sem,z_wp,l_wp,ka,kb,kc,kd] at zz)|(simp [go_sem,ka,kb,kc,kd] at zz));(try clear x_wp f_wp);(try clear z_wp);have z_wp:=zz;clear zz;(try clear l_wp);obtain ⟨x_wp,f_wp,l_wp⟩:=bO z_wp;have zz:=gQ hgw21 (b:=w20.heap.size) m_w20;(first|(simp [go_sem,z_w20,l_w20,ka,kb,kc,kd] at zz)|(simp [go_sem,ka,kb,kc,kd] at zz));(try clear x_w20 f_w20);(try clear z_w20);have z_w20:=zz;clear zz;(try clear l_w20);obtain ⟨x_w20,f_w20,l_w20⟩:=bO z_w20;have zz:=gQ hgw21 (b:=w20.heap.size+1) m_w20p;(first|(simp [go_sem,z_w20p,l_w20p,ka,kb,kc,kd] at zz)|(simp [go_sem,ka,kb,kc,kd] at zz));(try clear x_w20p f_w20p);(try clear z_w20p);have z_w20p:=zz;clear zz;(try clear l_w20p);obtain ⟨x_w20p,f_w20p,l_w20p⟩:=bO z_w20p
    have G1:OCells w21 (w.heap.size+2) (.slice a1 y.ch.cells.length c1) y.ch.cells:=(World.ownsRow.alloc (World.ownsRow.alloc OW.1 _) _).kept hgw21 (.inr (own_ne OW.1 (by omega)))
    have G2:OInts w21 (w.heap.size+2) (.slice a2 y.ch.words.length c2) y.ch.words:=(World.ownsRow.alloc (World.ownsRow.alloc OW.2.1 _) _).kept hgw21 (.inr (own_ne OW.2.1 (by omega)))
    have N1:=own_ne' OW.1 (Nat.le_refl _)
    have N2:=own_ne' OW.2.1 (Nat.le_refl _)
    have N3:=own_ne' OW.1 (b:=w20.heap.size+1) (by omega)
    have N4:=own_ne' OW.2.1 (b:=w20.heap.size+1) (by omega)
    have ke:w20.heap.size<w20.heap.size+1:=by omega
    have L1:=fun i h=>(World.ownsRow.lt OW.1 i h).2
    have L2:=fun i h=>(World.ownsRow.lt OW.2.1 i h).2
    have hwr:IntKind.i64.wrap ((y.ch.words.length:Int)+2)=(y.ch.words.length:Int)+2:=IntWalk.i64_in _ (by omega)
    have hhc:0≤hh.cell∧hh.cell≤39:=by simp only [handOk,handB,Bool.and_eq_true,inB_iff] at hho;exact ⟨hho.2.1.1.1,hho.2.1.1.2⟩
    clear OW hLd hLc z_b x_b f_b l_b hd hG
    go_upto_if 116 with fail
    go_cut [] (fun wx=>FS w B g w20.heap.size wx)
    case first =>
      cases y21
      · skip
        go_wp2_with fail
        go_meet
        exact ⟨y.ch,hh,Value.slice a1 y.ch.cells.length c1,Value.slice a2 y.ch.words.length c2,(by (repeat first|with_reducible exact G1|with_reducible refine oAl ?_ _|with_reducible refine oDr ?_|((with_reducible first|refine own_store ?_ ?_ _|refine own_box ?_ ?_);rotate_left;focus first|(refine own_ne G1 ?_;(try dsimp only);omega)|(refine own_ne' G1 ?_;(try dsimp only);omega)|exact N1|exact N3))),(by (repeat first|with_reducible exact G2|with_reducible refine oAl ?_ _|with_reducible refine oDr ?_|((with_reducible first|refine own_store ?_ ?_ _|refine own_box ?_ ?_);rotate_left;focus first|(refine own_ne G2 ?_;(try dsimp only);omega)|(refine own_ne' G2 ?_;(try dsimp only);omega)|exact N2|exact N4))),by omega,by omega,by simp [go_sem, *] <;> rfl,by simp [go_sem, *] <;> rfl,by simp [go_sem, *],by simp [go_sem, *],by (repeat (first|with_reducible assumption|with_reducible refine DS.alloc ?_|with_reducible refine DS.drew ?_|((with_reducible first|refine DS.setCell ?_ ?_ ?_|refine DS.box ?_ ?_ ?_);rotate_left;(focus ((try simp);(try omega)));(focus ((try simp);(try omega)))))),by (repeat (first|with_reducible assumption|with_reducible exact gR _ _|with_reducible refine gA ?_|with_reducible refine gD ?_|((with_reducible first|refine gS ?_ (.inr ?_)|refine gBx ?_ (.inr ?_));rotate_left;(focus ((try simp);(try omega))))))⟩
      · go_wp2_with fail;refine (l1Below_any B g 9  _ (by (repeat (first|with_reducible assumption|with_reducible refine DS.alloc ?_|with_reducible refine DS.drew ?_|((with_reducible refine DS.setCell ?_ ?_ ?_);rotate_left;(focus ((try simp);(try omega)));(focus ((try simp);(try omega)))))))  (by omega) (by omega)).mono ?_;rintro _ w22 ⟨⟨z,rfl,hz0,hz1⟩,hdw22,hgw22⟩;have hGw22:Gr g w w22:=gT (by (repeat (first|with_reducible assumption|with_reducible exact gR _ _|with_reducible refine gA ?_|with_reducible refine gD ?_|((with_reducible refine gS ?_ (.inr ?_));rotate_left;(focus ((try simp);(try omega))))))) hgw22;have hlw22:=hdw22.lt;have hsw22:=hgw22.size;(try (simp at hsw22))
        have hsw22:=hgw22.size;(try (simp at hsw22));have zz:=gQ hgw22 (b:=w.heap.size) m_w;(first|(simp [go_sem,z_w,l_w] at zz)|(simp [go_sem] at zz));(try clear x_w f_w);(try clear z_w);have z_w:=zz;clear zz;(try clear l_w);obtain ⟨x_w,f_w,l_w⟩:=bO z_w;have zz:=gQ hgw22 (b:=w.heap.size+1) m_wp;(first|(simp [go_sem,z_wp,l_wp] at zz)|(simp [go_sem] at zz));(try clear x_wp f_wp);(try clear z_wp);have z_wp:=zz;clear zz;(try clear l_wp);obtain ⟨x_wp,f_wp,l_wp⟩:=bO z_wp;have zz:=gQ hgw22 (b:=w20.heap.size) m_w20;(first|(simp [go_sem,z_w20,l_w20] at zz)|(simp [go_sem] at zz));(try clear x_w20 f_w20);(try clear z_w20);have z_w20:=zz;clear zz;(try clear l_w20);obtain ⟨x_w20,f_w20,l_w20⟩:=bO z_w20;have zz:=gQ hgw22 (b:=w20.heap.size+1) m_w20p;(first|(simp [go_sem,z_w20p,l_w20p] at zz)|(simp [go_sem] at zz));(try clear x_w20p f_w20p);(try clear z_w20p);have z_w20p:=zz;clear zz;(try clear l_w20p);obtain ⟨x_w20p,f_w20p,l_w20p⟩:=bO z_w20p
        replace G1:=G1.kept hgw22 (.inr (own_ne G1 (by omega)))
        replace G2:=G2.kept hgw22 (.inr (own_ne G2 (by omega)))
        have hz:z=0∨z=1∨z=2∨z=3∨z=4∨z=5∨z=6∨z=7∨z=8:=by omega
        clear hz0 hz1
        rcases hz with rfl|rfl|rfl|rfl|rfl|rfl|rfl|rfl|rfl
        · skip
          go_wp2_with fail
          go_meet
          exact ⟨y.ch,{ hh with pos:=at3 },Value.slice a1 y.ch.cells.length c1,Value.slice a2 y.ch.words.length c2,(by (repeat first|with_reducible exact G1|with_reducible refine oAl ?_ _|with_reducible refine oDr ?_|((with_reducible first|refine own_store ?_ ?_ _|refine own_box ?_ ?_);rotate_left;focus first|(refine own_ne G1 ?_;(try dsimp only);omega)|(refine own_ne' G1 ?_;(try dsimp only);omega)|exact N1|exact N3))),(by (repeat first|with_reducible exact G2|with_reducible refine oAl ?_ _|with_reducible refine oDr ?_|((with_reducible first|refine own_store ?_ ?_ _|refine own_box ?_ ?_);rotate_left;focus first|(refine own_ne G2 ?_;(try dsimp only);omega)|(refine own_ne' G2 ?_;(try dsimp only);omega)|exact N2|exact N4))),by omega,by omega,by simp [go_sem, *] <;> rfl,by simp [go_sem, *] <;> rfl,by simp [go_sem, *],by simp [go_sem, *],by (repeat (first|with_reducible assumption|with_reducible refine DS.alloc ?_|with_reducible refine DS.drew ?_|((with_reducible first|refine DS.setCell ?_ ?_ ?_|refine DS.box ?_ ?_ ?_);rotate_left;(focus ((try simp);(try omega)));(focus ((try simp);(try omega)))))),by (repeat (first|with_reducible assumption|with_reducible exact gR _ _|with_reducible refine gA ?_|with_reducible refine gD ?_|((with_reducible first|refine gS ?_ (.inr ?_)|refine gBx ?_ (.inr ?_));rotate_left;(focus ((try simp);(try omega))))))⟩
        · go_wp2_with fail;refine (l1Below_any B g 8  _ (by (repeat (first|with_reducible assumption|with_reducible refine DS.alloc ?_|with_reducible refine DS.drew ?_|((with_reducible refine DS.setCell ?_ ?_ ?_);rotate_left;(focus ((try simp);(try omega)));(focus ((try simp);(try omega)))))))  (by omega) (by omega)).mono ?_;rintro _ w23 ⟨⟨r,rfl,_,_⟩,hdw23,hgw23⟩;have hGw23:Gr g w w23:=gT (by (repeat (first|with_reducible assumption|with_reducible exact gR _ _|with_reducible refine gA ?_|with_reducible refine gD ?_|((with_reducible refine gS ?_ (.inr ?_));rotate_left;(focus ((try simp);(try omega))))))) hgw23;have hlw23:=hdw23.lt;have hsw23:=hgw23.size;(try (simp at hsw23))
          have hsw23:=hgw23.size;(try (simp at hsw23));have zz:=gQ hgw23 (b:=w.heap.size) m_w;(first|(simp [go_sem,z_w,l_w] at zz)|(simp [go_sem] at zz));(try clear x_w f_w);(try clear z_w);have z_w:=zz;clear zz;(try clear l_w);obtain ⟨x_w,f_w,l_w⟩:=bO z_w;have zz:=gQ hgw23 (b:=w.heap.size+1) m_wp;(first|(simp [go_sem,z_wp,l_wp] at zz)|(simp [go_sem] at zz));(try clear x_wp f_wp);(try clear z_wp);have z_wp:=zz;clear zz;(try clear l_wp);obtain ⟨x_wp,f_wp,l_wp⟩:=bO z_wp;have zz:=gQ hgw23 (b:=w20.heap.size) m_w20;(first|(simp [go_sem,z_w20,l_w20] at zz)|(simp [go_sem] at zz));(try clear x_w20 f_w20);(try clear z_w20);have z_w20:=zz;clear zz;(try clear l_w20);obtain ⟨x_w20,f_w20,l_w20⟩:=bO z_w20;have zz:=gQ hgw23 (b:=w20.heap.size+1) m_w20p;(first|(simp [go_sem,z_w20p,l_w20p] at zz)|(simp [go_sem] at zz));(try clear x_w20p f_w20p);(try clear z_w20p);have z_w20p:=zz;clear zz;(try clear l_w20p);obtain ⟨x_w20p,f_w20p,l_w20p⟩:=bO z_w20p
          replace G1:=G1.kept hgw23 (.inr (own_ne G1 (by omega)))
          replace G2:=G2.kept hgw23 (.inr (own_ne G2 (by omega)))
          go_wp2_with fail
          go_meet
          exact ⟨y.ch,{ hh with cell:=r },Value.slice a1 y.ch.cells.length c1,Value.slice a2 y.ch.words.length c2,(by (repeat first|with_reducible exact G1|with_reducible refine oAl ?_ _|with_reducible refine oDr ?_|((with_reducible first|refine own_store ?_ ?_ _|refine own_box ?_ ?_);rotate_left;focus first|(refine own_ne G1 ?_;(try dsimp only);omega)|(refine own_ne' G1 ?_;(try dsimp only);omega)|exact N1|exact N3))),(by (repeat first|with_reducible exact G2|with_reducible refine oAl ?_ _|with_reducible refine oDr ?_|((with_reducible first|refine own_store ?_ ?_ _|refine own_box ?_ ?_);rotate_left;focus first|(refine own_ne G2 ?_;(try dsimp only);omega)|(refine own_ne' G2 ?_;(try dsimp only);omega)|exact N2|exact N4))),by omega,by omega,by simp [go_sem, *] <;> rfl,by simp [go_sem, *] <;> rfl,by simp [go_sem, *],by simp [go_sem, *],by (repeat (first|with_reducible assumption|with_reducible refine DS.alloc ?_|with_reducible refine DS.drew ?_|((with_reducible first|refine DS.setCell ?_ ?_ ?_|refine DS.box ?_ ?_ ?_);rotate_left;(focus ((try simp);(try omega)));(focus ((try simp);(try omega)))))),by (repeat (first|with_reducible assumption|with_reducible exact gR _ _|with_reducible refine gA ?_|with_reducible refine gD ?_|((with_reducible first|refine gS ?_ (.inr ?_)|refine gBx ?_ (.inr ?_));rotate_left;(focus ((try simp);(try omega))))))⟩
        · go_wp2_with fail;refine (l1Below_any B g 11  _ (by (repeat (first|with_reducible assumption|with_reducible refine DS.alloc ?_|with_reducible refine DS.drew ?_|((with_reducible refine DS.setCell ?_ ?_ ?_);rotate_left;(focus ((try simp);(try omega)));(focus ((try simp);(try omega)))))))  (by omega) (by omega)).mono ?_;rintro _ w23 ⟨⟨r,rfl,_,_⟩,hdw23,hgw23⟩;have hGw23:Gr g w w23:=gT (by (repeat (first|with_reducible assumption|with_reducible exact gR _ _|with_reducible refine gA ?_|with_reducible refine gD ?_|((with_reducible refine gS ?_ (.inr ?_));rotate_left;(focus ((try simp);(try omega))))))) hgw23;have hlw23:=hdw23.lt;have hsw23:=hgw23.size;(try (simp at hsw23))
          have hsw23:=hgw23.size;(try (simp at hsw23));have zz:=gQ hgw23 (b:=w.heap.size) m_w;(first|(simp [go_sem,z_w,l_w] at zz)|(simp [go_sem] at zz));(try clear x_w f_w);(try clear z_w);have z_w:=zz;clear zz;(try clear l_w);obtain ⟨x_w,f_w,l_w⟩:=bO z_w;have zz:=gQ hgw23 (b:=w.heap.size+1) m_wp;(first|(simp [go_sem,z_wp,l_wp] at zz)|(simp [go_sem] at zz));(try clear x_wp f_wp);(try clear z_wp);have z_wp:=zz;clear zz;(try clear l_wp);obtain ⟨x_wp,f_wp,l_wp⟩:=bO z_wp;have zz:=gQ hgw23 (b:=w20.heap.size) m_w20;(first|(simp [go_sem,z_w20,l_w20] at zz)|(simp [go_sem] at zz));(try clear x_w20 f_w20);(try clear z_w20);have z_w20:=zz;clear zz;(try clear l_w20);obtain ⟨x_w20,f_w20,l_w20⟩:=bO z_w20;have zz:=gQ hgw23 (b:=w20.heap.size+1) m_w20p;(first|(simp [go_sem,z_w20p,l_w20p] at zz)|(simp [go_sem] at zz));(try clear x_w20p f_w20p);(try clear z_w20p);have z_w20p:=zz;clear zz;(try clear l_w20p);obtain ⟨x_w20p,f_w20p,l_w20p⟩:=bO z_w20p
          replace G1:=G1.kept hgw23 (.inr (own_ne G1 (by omega)))
          replace G2:=G2.kept hgw23 (.inr (own_ne G2 (by omega)))
          go_wp2_with fail
          go_meet
          exact ⟨y.ch,{ hh with seen:=r },Value.slice a1 y.ch.cells.length c1,Value.slice a2 y.ch.words.length c2,(by (repeat first|with_reducible exact G1|with_reducible refine oAl ?_ _|with_reducible refine oDr ?_|((with_reducible first|refine own_store ?_ ?_ _|refine own_box ?_ ?_);rotate_left;focus first|(refine own_ne G1 ?_;(try dsimp only);omega)|(refine own_ne' G1 ?_;(try dsimp only);omega)|exact N1|exact N3))),(by (repeat first|with_reducible exact G2|with_reducible refine oAl ?_ _|with_reducible refine oDr ?_|((with_reducible first|refine own_store ?_ ?_ _|refine own_box ?_ ?_);rotate_left;focus first|(refine own_ne G2 ?_;(try dsimp only);omega)|(refine own_ne' G2 ?_;(try dsimp only);omega)|exact N2|exact N4))),by omega,by omega,by simp [go_sem, *] <;> rfl,by simp [go_sem, *] <;> rfl,by simp [go_sem, *],by simp [go_sem, *],by (repeat (first|with_reducible assumption|with_reducible refine DS.alloc ?_|with_reducible refine DS.drew ?_|((with_reducible first|refine DS.setCell ?_ ?_ ?_|refine DS.box ?_ ?_ ?_);rotate_left;(focus ((try simp);(try omega)));(focus ((try simp);(try omega)))))),by (repeat (first|with_reducible assumption|with_reducible exact gR _ _|with_reducible refine gA ?_|with_reducible refine gD ?_|((with_reducible first|refine gS ?_ (.inr ?_)|refine gBx ?_ (.inr ?_));rotate_left;(focus ((try simp);(try omega))))))⟩
        · go_wp2_with fail;refine (l1Below_any B g ((y.ch.words.length:Int)+2)  _ (by (repeat (first|with_reducible assumption|with_reducible refine DS.alloc ?_|with_reducible refine DS.drew ?_|((with_reducible refine DS.setCell ?_ ?_ ?_);rotate_left;(focus ((try simp);(try omega)));(focus ((try simp);(try omega)))))))  (by omega) (by omega)).mono ?_;rintro _ w23 ⟨⟨r,rfl,_,_⟩,hdw23,hgw23⟩;have hGw23:Gr g w w23:=gT (by (repeat (first|with_reducible assumption|with_reducible exact gR _ _|with_reducible refine gA ?_|with_reducible refine gD ?_|((with_reducible refine gS ?_ (.inr ?_));rotate_left;(focus ((try simp);(try omega))))))) hgw23;have hlw23:=hdw23.lt;have hsw23:=hgw23.size;(try (simp at hsw23))
          have hsw23:=hgw23.size;(try (simp at hsw23));have zz:=gQ hgw23 (b:=w.heap.size) m_w;(first|(simp [go_sem,z_w,l_w] at zz)|(simp [go_sem] at zz));(try clear x_w f_w);(try clear z_w);have z_w:=zz;clear zz;(try clear l_w);obtain ⟨x_w,f_w,l_w⟩:=bO z_w;have zz:=gQ hgw23 (b:=w.heap.size+1) m_wp;(first|(simp [go_sem,z_wp,l_wp] at zz)|(simp [go_sem] at zz));(try clear x_wp f_wp);(try clear z_wp);have z_wp:=zz;clear zz;(try clear l_wp);obtain ⟨x_wp,f_wp,l_wp⟩:=bO z_wp;have zz:=gQ hgw23 (b:=w20.heap.size) m_w20;(first|(simp [go_sem,z_w20,l_w20] at zz)|(simp [go_sem] at zz));(try clear x_w20 f_w20);(try clear z_w20);have z_w20:=zz;clear zz;(try clear l_w20);obtain ⟨x_w20,f_w20,l_w20⟩:=bO z_w20;have zz:=gQ hgw23 (b:=w20.heap.size+1) m_w20p;(first|(simp [go_sem,z_w20p,l_w20p] at zz)|(simp [go_sem] at zz));(try clear x_w20p f_w20p);(try clear z_w20p);have z_w20p:=zz;clear zz;(try clear l_w20p);obtain ⟨x_w20p,f_w20p,l_w20p⟩:=bO z_w20p
          replace G1:=G1.kept hgw23 (.inr (own_ne G1 (by omega)))
          replace G2:=G2.kept hgw23 (.inr (own_ne G2 (by omega)))
          go_wp2_with fail
          go_meet
          exact ⟨y.ch,{ hh with wait:=r },Value.slice a1 y.ch.cells.length c1,Value.slice a2 y.ch.words.length c2,(by (repeat first|with_reducible exact G1|with_reducible refine oAl ?_ _|with_reducible refine oDr ?_|((with_reducible first|refine own_store ?_ ?_ _|refine own_box ?_ ?_);rotate_left;focus first|(refine own_ne G1 ?_;(try dsimp only);omega)|(refine own_ne' G1 ?_;(try dsimp only);omega)|exact N1|exact N3))),(by (repeat first|with_reducible exact G2|with_reducible refine oAl ?_ _|with_reducible refine oDr ?_|((with_reducible first|refine own_store ?_ ?_ _|refine own_box ?_ ?_);rotate_left;focus first|(refine own_ne G2 ?_;(try dsimp only);omega)|(refine own_ne' G2 ?_;(try dsimp only);omega)|exact N2|exact N4))),by omega,by omega,by simp [go_sem, *] <;> rfl,by simp [go_sem, *] <;> rfl,by simp [go_sem, *],by simp [go_sem, *],by (repeat (first|with_reducible assumption|with_reducible refine DS.alloc ?_|with_reducible refine DS.drew ?_|((with_reducible first|refine DS.setCell ?_ ?_ ?_|refine DS.box ?_ ?_ ?_);rotate_left;(focus ((try simp);(try omega)));(focus ((try simp);(try omega)))))),by (repeat (first|with_reducible assumption|with_reducible exact gR _ _|with_reducible refine gA ?_|with_reducible refine gD ?_|((with_reducible first|refine gS ?_ (.inr ?_)|refine gBx ?_ (.inr ?_));rotate_left;(focus ((try simp);(try omega))))))⟩
        · go_wp2_with fail;refine (l4Draw_any B g  _ (by (repeat (first|with_reducible assumption|with_reducible refine DS.alloc ?_|with_reducible refine DS.drew ?_|((with_reducible refine DS.setCell ?_ ?_ ?_);rotate_left;(focus ((try simp);(try omega)));(focus ((try simp);(try omega))))))) ).mono ?_;rintro _ w23 ⟨⟨kk,ee,rfl,_⟩,hdw23,hgw23⟩;have hGw23:Gr g w w23:=gT (by (repeat (first|with_reducible assumption|with_reducible exact gR _ _|with_reducible refine gA ?_|with_reducible refine gD ?_|((with_reducible refine gS ?_ (.inr ?_));rotate_left;(focus ((try simp);(try omega))))))) hgw23;have hlw23:=hdw23.lt;have hsw23:=hgw23.size;(try (simp at hsw23))
          have hsw23:=hgw23.size;(try (simp at hsw23));have zz:=gQ hgw23 (b:=w.heap.size) m_w;(first|(simp [go_sem,z_w,l_w] at zz)|(simp [go_sem] at zz));(try clear x_w f_w);(try clear z_w);have z_w:=zz;clear zz;(try clear l_w);obtain ⟨x_w,f_w,l_w⟩:=bO z_w;have zz:=gQ hgw23 (b:=w.heap.size+1) m_wp;(first|(simp [go_sem,z_wp,l_wp] at zz)|(simp [go_sem] at zz));(try clear x_wp f_wp);(try clear z_wp);have z_wp:=zz;clear zz;(try clear l_wp);obtain ⟨x_wp,f_wp,l_wp⟩:=bO z_wp;have zz:=gQ hgw23 (b:=w20.heap.size) m_w20;(first|(simp [go_sem,z_w20,l_w20] at zz)|(simp [go_sem] at zz));(try clear x_w20 f_w20);(try clear z_w20);have z_w20:=zz;clear zz;(try clear l_w20);obtain ⟨x_w20,f_w20,l_w20⟩:=bO z_w20;have zz:=gQ hgw23 (b:=w20.heap.size+1) m_w20p;(first|(simp [go_sem,z_w20p,l_w20p] at zz)|(simp [go_sem] at zz));(try clear x_w20p f_w20p);(try clear z_w20p);have z_w20p:=zz;clear zz;(try clear l_w20p);obtain ⟨x_w20p,f_w20p,l_w20p⟩:=bO z_w20p
          replace G1:=G1.kept hgw23 (.inr (own_ne G1 (by omega)))
          replace G2:=G2.kept hgw23 (.inr (own_ne G2 (by omega)))
          go_wp2_with fail
          go_meet
          exact ⟨y.ch,{ hh with code:=kk,elem:=ee },Value.slice a1 y.ch.cells.length c1,Value.slice a2 y.ch.words.length c2,(by (repeat first|with_reducible exact G1|with_reducible refine oAl ?_ _|with_reducible refine oDr ?_|((with_reducible first|refine own_store ?_ ?_ _|refine own_box ?_ ?_);rotate_left;focus first|(refine own_ne G1 ?_;(try dsimp only);omega)|(refine own_ne' G1 ?_;(try dsimp only);omega)|exact N1|exact N3))),(by (repeat first|with_reducible exact G2|with_reducible refine oAl ?_ _|with_reducible refine oDr ?_|((with_reducible first|refine own_store ?_ ?_ _|refine own_box ?_ ?_);rotate_left;focus first|(refine own_ne G2 ?_;(try dsimp only);omega)|(refine own_ne' G2 ?_;(try dsimp only);omega)|exact N2|exact N4))),by omega,by omega,by simp [go_sem, *] <;> rfl,by simp [go_sem, *] <;> rfl,by simp [go_sem, *],by simp [go_sem, *],by (repeat (first|with_reducible assumption|with_reducible refine DS.alloc ?_|with_reducible refine DS.drew ?_|((with_reducible first|refine DS.setCell ?_ ?_ ?_|refine DS.box ?_ ?_ ?_);rotate_left;(focus ((try simp);(try omega)));(focus ((try simp);(try omega)))))),by (repeat (first|with_reducible assumption|with_reducible exact gR _ _|with_reducible refine gA ?_|with_reducible refine gD ?_|((with_reducible first|refine gS ?_ (.inr ?_)|refine gBx ?_ (.inr ?_));rotate_left;(focus ((try simp);(try omega))))))⟩
        · obtain ⟨gc,cc,ec,lgc,lgc2,hcc,hcf⟩:=OCells.open1 G1 (i:=hh.cell.toNat) (by omega)
          simp at ec
          obtain ⟨rfl,rfl⟩:=ec
          have lgc3:gc<w20.heap.size:=L1 gc rfl
          have lgc4:gc<w20.heap.size+1:=by omega
          have ng1:w20.heap.size≠gc:=by omega
          have ng2:w20.heap.size+1≠gc:=by omega
          have ng3:gc≠w20.heap.size:=by omega
          have ng4:gc≠w20.heap.size+1:=by omega
          have lgw:w.heap.size<gc:=by omega
          have lgwp:w.heap.size+1<gc:=by omega
          have mgc:some gc≠some g:=by simp;omega
          have NE:(Value.slice a2 y.ch.words.length c2).ownBlock≠some gc:=fun e=>OCells.ne G1 G2 gc rfl e
          obtain ⟨i,hi⟩:∃ i:Nat,hh.cell=(i:Int):=⟨hh.cell.toNat,by omega⟩
          have hi40:i<y.ch.cells.length:=by omega
          have hi0:(0:Int)≤(i:Int):=by omega
          have hi1:(i:Int)<(y.ch.cells.length:Int):=by omega
          rw [show hh.cell.toNat=i by omega] at hcc
          have c0:=hcc 0 (by omega)
          simp only [C3.val,Nat.add_zero] at c0
          obtain ⟨cv,hcv⟩:∃ cv,w22.cell? ⟨gc,i*3,none⟩=some cv:=⟨_,c0⟩
          clear c0
          have hcd:∀ o,w22.drew.frozen? ⟨gc,o,none⟩=false:=fun o=>by rw [← hcf o];rfl
          have hcw:w22.drew.cell? ⟨gc,i*3,none⟩=some cv:=by rw [← hcv];rfl
          have hcl:(hh.cell == (i:Int))=true:=by simpa using hi
          have z22:=z_w20
          have xc:∀ W:World,hp W w20.heap.size=some (.cells (hvals hh) 31)→W.cell? ⟨w20.heap.size,3,none⟩=some (.int .i64 i):=fun W e=>by
            rw [← hi];exact (bO e).1 3
          clear hi hcc
          go_wp2_with fail
          go_region_held3 (fun w'=>hp w' (w20.heap.size+1)=some (.cells (cvals y.ch (.slice (some ⟨gc,0,none⟩) y.ch.cells.length c1) (Value.slice a2 y.ch.words.length c2)) 27)∧w'.cell? ⟨w20.heap.size+1,4,none⟩=some (.slice (some ⟨gc,0,none⟩) y.ch.cells.length c1)∧hp w' w20.heap.size=some (.cells (hvals hh) 31)∧w'.cell? ⟨w20.heap.size,3,none⟩=some (.int .i64 i))
            (first|(simp [*,go_sem])|exact ⟨by simp [*,go_sem],by simp [*,go_sem],by simp [*,go_sem],xc _ (by simp [*,go_sem])⟩)
            (first|(go_at_call 49;refine (l1Below_any B g 11 _ (by (repeat (first|with_reducible assumption|with_reducible refine DS.alloc ?_|with_reducible refine DS.drew ?_|((with_reducible first|refine DS.setCell ?_ ?_ ?_|refine DS.box ?_ ?_ ?_);rotate_left;(focus ((try simp);(try omega)));(focus ((try simp);(try omega))))))) (by omega) (by omega)).mono ?_;rintro _ w23 ⟨⟨r,rfl,_,_⟩,hdw23,hgw23⟩;have hGw23:Gr g w w23:=gT (by (repeat (first|with_reducible assumption|with_reducible exact gR _ _|with_reducible refine gA ?_|with_reducible refine gD ?_|((with_reducible first|refine gS ?_ (.inr ?_)|refine gBx ?_ (.inr ?_));rotate_left;(focus ((try simp);(try omega))))))) hgw23;have f23:∀ o,w23.frozen? ⟨gc,o,none⟩=false:=fun o=>(grFroz hgw23 (b:=gc) (by (try simp) <;> omega) mgc o).trans (hcd o);have c23:w23.cell? ⟨gc,i*3,none⟩=some cv:=(grCell hgw23 (b:=gc) (by (try simp) <;> omega) mgc (i*3)).trans hcw;have hsw23:=hgw23.size;(try (simp at hsw23));have zz:=gQ hgw23 (b:=w.heap.size) m_w;(first|(simp [go_sem,z_w,l_w] at zz)|(simp [go_sem] at zz));(try clear x_w f_w);(try clear z_w);have z_w:=zz;clear zz;(try clear l_w);obtain ⟨x_w,f_w,l_w⟩:=bO z_w;have zz:=gQ hgw23 (b:=w.heap.size+1) m_wp;(first|(simp [go_sem,z_wp,l_wp] at zz)|(simp [go_sem] at zz));(try clear x_wp f_wp);(try clear z_wp);have z_wp:=zz;clear zz;(try clear l_wp);obtain ⟨x_wp,f_wp,l_wp⟩:=bO z_wp;have zz:=gQ hgw23 (b:=w20.heap.size) m_w20;(first|(simp [go_sem,z_w20,l_w20] at zz)|(simp [go_sem] at zz));(try clear x_w20 f_w20);(try clear z_w20);have z_w20:=zz;clear zz;(try clear l_w20);obtain ⟨x_w20,f_w20,l_w20⟩:=bO z_w20;have zz:=gQ hgw23 (b:=w20.heap.size+1) m_w20p;(first|(simp [go_sem,z_w20p,l_w20p] at zz)|(simp [go_sem] at zz));(try clear x_w20p f_w20p);(try clear z_w20p);have z_w20p:=zz;clear zz;(try clear l_w20p);obtain ⟨x_w20p,f_w20p,l_w20p⟩:=bO z_w20p;have G3:=World.ownsRow.kept (oDr G1) hgw23 (.inr (own_ne G1 (by omega)));have G4:=World.ownsRow.kept (oDr G2) hgw23 (.inr (own_ne G2 (by omega)))))
          go_wp2_with fail
          go_meet
          have P1:=OCells.setS G3 hi40 r
          have P2:=own_store (p:=⟨gc,i*3,none⟩) G4 NE (.int .i64 r)
          exact ⟨{ y.ch with cells:=y.ch.cells.set i { y.ch.cells.getD i ⟨0,0,0⟩ with s:=r } },hh,.slice (some ⟨gc,0,none⟩) y.ch.cells.length c1,Value.slice a2 y.ch.words.length c2,P1,P2,(show (y.ch.cells.set i _).length=40 by rw [List.length_set];omega),(show y.ch.words.length≤80 by omega),by simp [go_sem, *] <;> rfl,by simp [go_sem, *],by simp [go_sem, *],by simp [go_sem, *],by (repeat (first|with_reducible assumption|with_reducible refine DS.alloc ?_|with_reducible refine DS.drew ?_|((with_reducible first|refine DS.setCell ?_ ?_ ?_|refine DS.box ?_ ?_ ?_);rotate_left;(focus ((try simp);(try omega)));(focus ((try simp);(try omega)))))),by (repeat (first|with_reducible assumption|with_reducible exact gR _ _|with_reducible refine gA ?_|with_reducible refine gD ?_|((with_reducible first|refine gS ?_ (.inr ?_)|refine gBx ?_ (.inr ?_));rotate_left;(focus ((try simp);(try omega))))))⟩
        · skip
          go_wp2_with fail
          go_meet
          exact ⟨{ y.ch with sent:=40,got:=40,fin:=40 },hh,Value.slice a1 y.ch.cells.length c1,Value.slice a2 y.ch.words.length c2,(by (repeat first|with_reducible exact G1|with_reducible refine oAl ?_ _|with_reducible refine oDr ?_|((with_reducible first|refine own_store ?_ ?_ _|refine own_box ?_ ?_);rotate_left;focus first|(refine own_ne G1 ?_;(try dsimp only);omega)|(refine own_ne' G1 ?_;(try dsimp only);omega)|exact N1|exact N3))),(by (repeat first|with_reducible exact G2|with_reducible refine oAl ?_ _|with_reducible refine oDr ?_|((with_reducible first|refine own_store ?_ ?_ _|refine own_box ?_ ?_);rotate_left;focus first|(refine own_ne G2 ?_;(try dsimp only);omega)|(refine own_ne' G2 ?_;(try dsimp only);omega)|exact N2|exact N4))),(show y.ch.cells.length=40 by omega),(show y.ch.words.length≤80 by omega),by simp [go_sem, *] <;> rfl,by simp [go_sem, *] <;> rfl,by simp [go_sem, *],by simp [go_sem, *],by (repeat (first|with_reducible assumption|with_reducible refine DS.alloc ?_|with_reducible refine DS.drew ?_|((with_reducible first|refine DS.setCell ?_ ?_ ?_|refine DS.box ?_ ?_ ?_);rotate_left;(focus ((try simp);(try omega)));(focus ((try simp);(try omega)))))),by (repeat (first|with_reducible assumption|with_reducible exact gR _ _|with_reducible refine gA ?_|with_reducible refine gD ?_|((with_reducible first|refine gS ?_ (.inr ?_)|refine gBx ?_ (.inr ?_));rotate_left;(focus ((try simp);(try omega))))))⟩
        · obtain ⟨gc,cc,ec,lgc,lgc2,_,_⟩:=OCells.open1 G1 (i:=0) (by omega)
          simp at ec
          obtain ⟨rfl,rfl⟩:=ec
          have NEc:(Value.slice (some ⟨gc,0,none⟩) y.ch.cells.length c1).ownBlock≠(Value.slice a2 y.ch.words.length c2).ownBlock:=fun e=>OCells.ne G1 G2 gc rfl (e.symm.trans rfl)
          obtain ⟨i0,hi0,hz0,hz1,hz2⟩:=info_parts infoInt
          have v_w:some w.heap.size≠(Value.slice a2 y.ch.words.length c2).ownBlock:=fun e=>by have:=(World.ownsRow.lt G2 _ e.symm).1;omega
          have v_wp:some (w.heap.size+1)≠(Value.slice a2 y.ch.words.length c2).ownBlock:=fun e=>by have:=(World.ownsRow.lt G2 _ e.symm).1;omega
          have v_w20:some w20.heap.size≠(Value.slice a2 y.ch.words.length c2).ownBlock:=fun e=>by have:=L2 _ e.symm;omega
          have v_w20p:some (w20.heap.size+1)≠(Value.slice a2 y.ch.words.length c2).ownBlock:=fun e=>by have:=L2 _ e.symm;omega
          have hwa:IntKind.i64.wrap (80 - (y.ch.words.length:Int))=80 - (y.ch.words.length:Int):=IntWalk.i64_in _ (by omega)
          have hwb:wrap64 (80 - (y.ch.words.length:Int))=80 - (y.ch.words.length:Int):=IntWalk.wrap64_in _ (by omega)
          go_wp2_with fail
          refine wp_region_noPanic ?_
          refine wp_region_held_drew (S:=fun _=>True) (by kernel_rfl) trivial (fun hS0=>?_)
          refine wpAnyH_take (i:=0) (oi:=⟨some 164,_,_,_,_,_⟩) (v:=?_) rfl (by kernel_rfl) (by kernel_rfl) (by kernel_rfl) (fun _ _ _ h=>h) (Or.inl ⟨by rfl,?_⟩) (by assumption) ?_;rotate_left;(focus (intro w' hSw;(try dsimp only at hSw);go_simp;(try with_reducible rfl)));(try rotate_left);(try simp only [Act.put,List.setIfInBounds_toArray,List.set_cons_zero,List.set_cons_succ])
          refine wpAnyH_take (i:=2) (oi:=⟨some 166,_,_,_,_,_⟩) (v:=?_) rfl (by kernel_rfl) (by kernel_rfl) (by kernel_rfl) (fun _ _ _ h=>h) (Or.inl ⟨by rfl,?_⟩) (by assumption) ?_;rotate_left;(focus (intro w' hSw;(try dsimp only at hSw);go_simp;(try with_reducible rfl)));(try rotate_left);(try simp only [Act.put,List.setIfInBounds_toArray,List.set_cons_zero,List.set_cons_succ])
          refine wpAnyH_take (i:=6) (oi:=⟨some 170,_,_,_,_,_⟩) (v:=?_) rfl (by kernel_rfl) (by kernel_rfl) (by kernel_rfl) (fun _ _ _ h=>h) (Or.inl ⟨by rfl,?_⟩) (by assumption) ?_;rotate_left;(focus (intro w' hSw;(try dsimp only at hSw);go_simp;(try with_reducible rfl)));(try rotate_left);(try simp only [Act.put,List.setIfInBounds_toArray,List.set_cons_zero,List.set_cons_succ])
          refine wpAnyH_ready (rs:=[1,3,7]) (by kernel_rfl) (by simp) ?_
          refine AllReadyH.cons (o:=⟨some 165,_,_,_,_,_⟩) rfl (fun K hK=>?_) (AllReadyH.cons (o:=⟨some 167,_,_,_,_,_⟩) rfl (fun K hK=>?_) (AllReadyH.cons (o:=⟨some 171,_,_,_,_,_⟩) rfl (fun K hK=>?_) AllReadyH.nil))
          · skip
            go_simp
            refine hK.out _ _ trivial (fun _=>?_)
            clear hK
            (try simp only [Act.put,List.setIfInBounds_toArray,List.set_cons_zero,List.set_cons_succ])
            refine wpAnyH_ready (rs:=[3,7]) (by kernel_rfl) (by simp) ?_
            refine AllReadyH.cons (o:=⟨some 167,_,_,_,_,_⟩) rfl (fun K hK=>?_) (AllReadyH.cons (o:=⟨some 171,_,_,_,_,_⟩) rfl (fun K hK=>?_) AllReadyH.nil)
            · skip
              go_simp
              refine hK.out _ _ trivial (fun _=>?_)
              clear hK
              (try simp only [Act.put,List.setIfInBounds_toArray,List.set_cons_zero,List.set_cons_succ])
              refine wpAnyH_take (i:=4) (oi:=⟨some 168,_,_,_,_,_⟩) (v:=?_) rfl (by kernel_rfl) (by kernel_rfl) (by kernel_rfl) (fun _ _ _ h=>h) (Or.inl ⟨by rfl,?_⟩) (by assumption) ?_;rotate_left;(focus (intro w' hSw;(try dsimp only at hSw);go_simp;(try with_reducible rfl)));(try rotate_left);(try simp only [Act.put,List.setIfInBounds_toArray,List.set_cons_zero,List.set_cons_succ])
              refine wpAnyH_take (i:=5) (oi:=⟨some 169,_,_,_,_,_⟩) (v:=?_) rfl (by kernel_rfl) (by kernel_rfl) (by kernel_rfl) (fun _ _ _ h=>h) (Or.inl ⟨by rfl,?_⟩) (by assumption) ?_;rotate_left;(focus (intro w' hSw;(try dsimp only at hSw);go_simp;(try with_reducible rfl)));(try rotate_left);(try simp only [Act.put,List.setIfInBounds_toArray,List.set_cons_zero,List.set_cons_succ])
              refine wpAnyH_ready (rs:=[7]) (by kernel_rfl) (by simp) ?_
              refine AllReadyH.cons (o:=⟨some 171,_,_,_,_,_⟩) rfl (fun K hK=>?_) AllReadyH.nil
              · skip
                go_simp
                go_at_call 49
                refine (l1Below_any B g 2 _ (by (repeat (first|with_reducible assumption|with_reducible refine DS.alloc ?_|with_reducible refine DS.drew ?_|((with_reducible first|refine DS.setCell ?_ ?_ ?_|refine DS.box ?_ ?_ ?_);rotate_left;(focus ((try simp);(try omega)));(focus ((try simp);(try omega))))))) (by omega) (by omega)).mono ?_
                rintro _ w23 ⟨⟨x4,rfl,h40,h41⟩,hdw23,hgw23⟩
                have hGw23:Gr g w w23:=gT (by (repeat (first|with_reducible assumption|with_reducible exact gR _ _|with_reducible refine gA ?_|with_reducible refine gD ?_|((with_reducible first|refine gS ?_ (.inr ?_)|refine gBx ?_ (.inr ?_));rotate_left;(focus ((try simp);(try omega))))))) hgw23
                have hsw23:=hgw23.size;(try (simp at hsw23));have zz:=gQ hgw23 (b:=w.heap.size) m_w;(first|(simp [go_sem,z_w,l_w] at zz)|(simp [go_sem] at zz));(try clear x_w f_w);(try clear z_w);have z_w:=zz;clear zz;(try clear l_w);obtain ⟨x_w,f_w,l_w⟩:=bO z_w;have zz:=gQ hgw23 (b:=w.heap.size+1) m_wp;(first|(simp [go_sem,z_wp,l_wp] at zz)|(simp [go_sem] at zz));(try clear x_wp f_wp);(try clear z_wp);have z_wp:=zz;clear zz;(try clear l_wp);obtain ⟨x_wp,f_wp,l_wp⟩:=bO z_wp;have zz:=gQ hgw23 (b:=w20.heap.size) m_w20;(first|(simp [go_sem,z_w20,l_w20] at zz)|(simp [go_sem] at zz));(try clear x_w20 f_w20);(try clear z_w20);have z_w20:=zz;clear zz;(try clear l_w20);obtain ⟨x_w20,f_w20,l_w20⟩:=bO z_w20;have zz:=gQ hgw23 (b:=w20.heap.size+1) m_w20p;(first|(simp [go_sem,z_w20p,l_w20p] at zz)|(simp [go_sem] at zz));(try clear x_w20p f_w20p);(try clear z_w20p);have z_w20p:=zz;clear zz;(try clear l_w20p);obtain ⟨x_w20p,f_w20p,l_w20p⟩:=bO z_w20p
                have G3:=World.ownsRow.kept (oDr G1) hgw23 (.inr (own_ne G1 (by omega)))
                have G4:=World.ownsRow.kept (oDr G2) hgw23 (.inr (own_ne G2 (by omega)))
                obtain ⟨k,hk⟩:∃ k:Nat,80 - (y.ch.words.length:Int) - x4=(k:Int):=⟨(80 - (y.ch.words.length:Int) - x4).toNat,by omega⟩
                have hk0:0<k:=by omega
                have hk1:y.ch.words.length+k≤80:=by omega
                have hwc:IntKind.i64.wrap (k:Int)=(k:Int):=IntWalk.i64_in _ (by omega)
                have hwd:wrap64 (k:Int)=(k:Int):=IntWalk.wrap64_in _ (by omega)
                refine hK.out _ _ trivial (fun _=>?_)
                clear hK
                (try simp only [Act.put,List.setIfInBounds_toArray,List.set_cons_zero,List.set_cons_succ])
                refine wpAnyH_take (i:=8) (oi:=⟨some 172,_,_,_,_,_⟩) (v:=?_) rfl (by kernel_rfl) (by kernel_rfl) (by kernel_rfl) (fun _ _ _ h=>h) (Or.inl ⟨by rfl,?_⟩) (by assumption) ?_;rotate_left;(focus (intro w' hSw;(try dsimp only at hSw);go_simp;(try with_reducible rfl)));(try rotate_left);(try simp only [Act.put,List.setIfInBounds_toArray,List.set_cons_zero,List.set_cons_succ])
                refine wpAnyH_ready (rs:=[9]) (by kernel_rfl) (by simp) ?_
                refine AllReadyH.cons (o:=⟨some 173,_,_,_,_,_⟩) rfl (fun K hK=>?_) AllReadyH.nil
                · skip
                  refine step_zeros _ (by rfl) _ _ _ _ (by rfl) (w.heap.size+2) 2 i0 _ .i64 1 8 Tryz.underlying25 Tryz.underlying2 hi0 hz0 hz1 hz2 rfl (by omega) (Value.slice a2 y.ch.words.length c2) _ _ (by rfl) G4 k (by rfl) hk0 (by rw [zeros_ints];exact ints_one _) (by unfold maxLen;omega) (by omega) (by omega) w23.heap.size rfl ?_
                  intro g8 q8 w8 o8 gr8 hat hlt8
                  refine hK.out _ _ trivial (fun _=>?_)
                  clear hK
                  (try simp only [Act.put,List.setIfInBounds_toArray,List.set_cons_zero,List.set_cons_succ])
                  have hdw8:DS w8 B g:=DS.grown hdw23 gr8 (fun i e=>by have:=(World.ownsRow.lt G4 i e).1;omega)
                  have hGw8:Gr g w w8:=Gr.grown hGw23 gr8 (fun i e=>by have:=(World.ownsRow.lt G4 i e).1;omega)
                  have G5:=World.ownsRow.kept G3 gr8 (.inr NEc)
                  have hsw8:=gr8.size;(try (simp at hsw8));have zz:=gQ gr8 (b:=w.heap.size) v_w;(first|(simp [go_sem,z_w,l_w] at zz)|(simp [go_sem] at zz));(try clear x_w f_w);(try clear z_w);have z_w:=zz;clear zz;(try clear l_w);obtain ⟨x_w,f_w,l_w⟩:=bO z_w;have zz:=gQ gr8 (b:=w.heap.size+1) v_wp;(first|(simp [go_sem,z_wp,l_wp] at zz)|(simp [go_sem] at zz));(try clear x_wp f_wp);(try clear z_wp);have z_wp:=zz;clear zz;(try clear l_wp);obtain ⟨x_wp,f_wp,l_wp⟩:=bO z_wp;have zz:=gQ gr8 (b:=w20.heap.size) v_w20;(first|(simp [go_sem,z_w20,l_w20] at zz)|(simp [go_sem] at zz));(try clear x_w20 f_w20);(try clear z_w20);have z_w20:=zz;clear zz;(try clear l_w20);obtain ⟨x_w20,f_w20,l_w20⟩:=bO z_w20;have zz:=gQ gr8 (b:=w20.heap.size+1) v_w20p;(first|(simp [go_sem,z_w20p,l_w20p] at zz)|(simp [go_sem] at zz));(try clear x_w20p f_w20p);(try clear z_w20p);have z_w20p:=zz;clear zz;(try clear l_w20p);obtain ⟨x_w20p,f_w20p,l_w20p⟩:=bO z_w20p
                  refine wpAnyH_take (i:=10) (oi:=⟨some 174,_,_,_,_,_⟩) (v:=?_) rfl (by kernel_rfl) (by kernel_rfl) (by kernel_rfl) (fun _ _ _ h=>h) (Or.inl ⟨by rfl,?_⟩) (by assumption) ?_;rotate_left;(focus (intro w' hSw;(try dsimp only at hSw);go_simp;(try with_reducible rfl)));(try rotate_left);(try simp only [Act.put,List.setIfInBounds_toArray,List.set_cons_zero,List.set_cons_succ])
                  refine wpAnyH_ready (rs:=[11]) (by kernel_rfl) (by simp) ?_
                  refine AllReadyH.cons (o:=⟨none,_,_,_,_,_⟩) rfl (fun K hK=>?_) AllReadyH.nil
                  · skip
                    go_simp
                    refine hK.out _ _ trivial (fun _=>?_)
                    clear hK
                    (try simp only [Act.put,List.setIfInBounds_toArray,List.set_cons_zero,List.set_cons_succ])
                    refine wpAnyH_done (by kernel_rfl) ?_ _
                    refine NoPanic.normal ?_
                    have o9:=OInts.zeros o8
                    have NG1:(Value.slice (some ⟨g8,0,none⟩) (y.ch.words.length+k) q8).ownBlock≠some (w20.heap.size+1):=fun e=>by
                      rcases hat with hat|hat
                      · exact N4 (by rw [hat];exact e)
                      · simp [Value.ownBlock] at e
                        omega
                    go_wp2_with fail
                    go_meet
                    exact ⟨{ y.ch with words:=y.ch.words ++ List.replicate k 0 },hh,.slice (some ⟨gc,0,none⟩) y.ch.cells.length c1,.slice (some ⟨g8,0,none⟩) (y.ch.words.length+k) q8,(by (repeat first|with_reducible exact G5|with_reducible refine oAl ?_ _|with_reducible refine oDr ?_|((with_reducible first|refine own_store ?_ ?_ _|refine own_box ?_ ?_);rotate_left;focus first|(refine own_ne G5 ?_;(try dsimp only);omega)|(refine own_ne' G5 ?_;(try dsimp only);omega)|exact N3))),(by (repeat first|with_reducible exact o9|with_reducible refine oAl ?_ _|with_reducible refine oDr ?_|((with_reducible first|refine own_store ?_ ?_ _|refine own_box ?_ ?_);rotate_left;focus first|(refine own_ne o9 ?_;(try dsimp only);omega)|(refine own_ne' o9 ?_;(try dsimp only);omega)|exact NG1))),(show y.ch.cells.length=40 by omega),(show (y.ch.words ++ List.replicate k 0).length≤80 by rw [List.length_append,List.length_replicate];omega),by simp [go_sem, *] <;> rfl,by simp [go_sem, *],by simp [go_sem, *],by simp [go_sem, *],by (repeat (first|with_reducible assumption|with_reducible refine DS.alloc ?_|with_reducible refine DS.drew ?_|((with_reducible first|refine DS.setCell ?_ ?_ ?_|refine DS.box ?_ ?_ ?_);rotate_left;(focus ((try simp);(try omega)));(focus ((try simp);(try omega)))))),by (repeat (first|with_reducible assumption|with_reducible exact gR _ _|with_reducible refine gA ?_|with_reducible refine gD ?_|((with_reducible first|refine gS ?_ (.inr ?_)|refine gBx ?_ (.inr ?_));rotate_left;(focus ((try simp);(try omega))))))⟩
            · skip
              go_simp
              go_at_call 49
              refine (l1Below_any B g 2 _ (by (repeat (first|with_reducible assumption|with_reducible refine DS.alloc ?_|with_reducible refine DS.drew ?_|((with_reducible first|refine DS.setCell ?_ ?_ ?_|refine DS.box ?_ ?_ ?_);rotate_left;(focus ((try simp);(try omega)));(focus ((try simp);(try omega))))))) (by omega) (by omega)).mono ?_
              rintro _ w23 ⟨⟨x4,rfl,h40,h41⟩,hdw23,hgw23⟩
              have hGw23:Gr g w w23:=gT (by (repeat (first|with_reducible assumption|with_reducible exact gR _ _|with_reducible refine gA ?_|with_reducible refine gD ?_|((with_reducible first|refine gS ?_ (.inr ?_)|refine gBx ?_ (.inr ?_));rotate_left;(focus ((try simp);(try omega))))))) hgw23
              have hsw23:=hgw23.size;(try (simp at hsw23));have zz:=gQ hgw23 (b:=w.heap.size) m_w;(first|(simp [go_sem,z_w,l_w] at zz)|(simp [go_sem] at zz));(try clear x_w f_w);(try clear z_w);have z_w:=zz;clear zz;(try clear l_w);obtain ⟨x_w,f_w,l_w⟩:=bO z_w;have zz:=gQ hgw23 (b:=w.heap.size+1) m_wp;(first|(simp [go_sem,z_wp,l_wp] at zz)|(simp [go_sem] at zz));(try clear x_wp f_wp);(try clear z_wp);have z_wp:=zz;clear zz;(try clear l_wp);obtain ⟨x_wp,f_wp,l_wp⟩:=bO z_wp;have zz:=gQ hgw23 (b:=w20.heap.size) m_w20;(first|(simp [go_sem,z_w20,l_w20] at zz)|(simp [go_sem] at zz));(try clear x_w20 f_w20);(try clear z_w20);have z_w20:=zz;clear zz;(try clear l_w20);obtain ⟨x_w20,f_w20,l_w20⟩:=bO z_w20;have zz:=gQ hgw23 (b:=w20.heap.size+1) m_w20p;(first|(simp [go_sem,z_w20p,l_w20p] at zz)|(simp [go_sem] at zz));(try clear x_w20p f_w20p);(try clear z_w20p);have z_w20p:=zz;clear zz;(try clear l_w20p);obtain ⟨x_w20p,f_w20p,l_w20p⟩:=bO z_w20p
              have G3:=World.ownsRow.kept (oDr G1) hgw23 (.inr (own_ne G1 (by omega)))
              have G4:=World.ownsRow.kept (oDr G2) hgw23 (.inr (own_ne G2 (by omega)))
              obtain ⟨k,hk⟩:∃ k:Nat,80 - (y.ch.words.length:Int) - x4=(k:Int):=⟨(80 - (y.ch.words.length:Int) - x4).toNat,by omega⟩
              have hk0:0<k:=by omega
              have hk1:y.ch.words.length+k≤80:=by omega
              have hwc:IntKind.i64.wrap (k:Int)=(k:Int):=IntWalk.i64_in _ (by omega)
              have hwd:wrap64 (k:Int)=(k:Int):=IntWalk.wrap64_in _ (by omega)
              refine hK.out _ _ trivial (fun _=>?_)
              clear hK
              (try simp only [Act.put,List.setIfInBounds_toArray,List.set_cons_zero,List.set_cons_succ])
              refine wpAnyH_ready (rs:=[3]) (by kernel_rfl) (by simp) ?_
              refine AllReadyH.cons (o:=⟨some 167,_,_,_,_,_⟩) rfl (fun K hK=>?_) AllReadyH.nil
              · skip
                go_simp
                refine hK.out _ _ trivial (fun _=>?_)
                clear hK
                (try simp only [Act.put,List.setIfInBounds_toArray,List.set_cons_zero,List.set_cons_succ])
                refine wpAnyH_take (i:=4) (oi:=⟨some 168,_,_,_,_,_⟩) (v:=?_) rfl (by kernel_rfl) (by kernel_rfl) (by kernel_rfl) (fun _ _ _ h=>h) (Or.inl ⟨by rfl,?_⟩) (by assumption) ?_;rotate_left;(focus (intro w' hSw;(try dsimp only at hSw);go_simp;(try with_reducible rfl)));(try rotate_left);(try simp only [Act.put,List.setIfInBounds_toArray,List.set_cons_zero,List.set_cons_succ])
                refine wpAnyH_take (i:=5) (oi:=⟨some 169,_,_,_,_,_⟩) (v:=?_) rfl (by kernel_rfl) (by kernel_rfl) (by kernel_rfl) (fun _ _ _ h=>h) (Or.inl ⟨by rfl,?_⟩) (by assumption) ?_;rotate_left;(focus (intro w' hSw;(try dsimp only at hSw);go_simp;(try with_reducible rfl)));(try rotate_left);(try simp only [Act.put,List.setIfInBounds_toArray,List.set_cons_zero,List.set_cons_succ])
                refine wpAnyH_take (i:=8) (oi:=⟨some 172,_,_,_,_,_⟩) (v:=?_) rfl (by kernel_rfl) (by kernel_rfl) (by kernel_rfl) (fun _ _ _ h=>h) (Or.inl ⟨by rfl,?_⟩) (by assumption) ?_;rotate_left;(focus (intro w' hSw;(try dsimp only at hSw);go_simp;(try with_reducible rfl)));(try rotate_left);(try simp only [Act.put,List.setIfInBounds_toArray,List.set_cons_zero,List.set_cons_succ])
                refine wpAnyH_ready (rs:=[9]) (by kernel_rfl) (by simp) ?_
                refine AllReadyH.cons (o:=⟨some 173,_,_,_,_,_⟩) rfl (fun K hK=>?_) AllReadyH.nil
                · skip
                  refine step_zeros _ (by rfl) _ _ _ _ (by rfl) (w.heap.size+2) 2 i0 _ .i64 1 8 Tryz.underlying25 Tryz.underlying2 hi0 hz0 hz1 hz2 rfl (by omega) (Value.slice a2 y.ch.words.length c2) _ _ (by rfl) G4 k (by rfl) hk0 (by rw [zeros_ints];exact ints_one _) (by unfold maxLen;omega) (by omega) (by omega) w23.heap.size rfl ?_
                  intro g8 q8 w8 o8 gr8 hat hlt8
                  refine hK.out _ _ trivial (fun _=>?_)
                  clear hK
                  (try simp only [Act.put,List.setIfInBounds_toArray,List.set_cons_zero,List.set_cons_succ])
                  have hdw8:DS w8 B g:=DS.grown hdw23 gr8 (fun i e=>by have:=(World.ownsRow.lt G4 i e).1;omega)
                  have hGw8:Gr g w w8:=Gr.grown hGw23 gr8 (fun i e=>by have:=(World.ownsRow.lt G4 i e).1;omega)
                  have G5:=World.ownsRow.kept G3 gr8 (.inr NEc)
                  have hsw8:=gr8.size;(try (simp at hsw8));have zz:=gQ gr8 (b:=w.heap.size) v_w;(first|(simp [go_sem,z_w,l_w] at zz)|(simp [go_sem] at zz));(try clear x_w f_w);(try clear z_w);have z_w:=zz;clear zz;(try clear l_w);obtain ⟨x_w,f_w,l_w⟩:=bO z_w;have zz:=gQ gr8 (b:=w.heap.size+1) v_wp;(first|(simp [go_sem,z_wp,l_wp] at zz)|(simp [go_sem] at zz));(try clear x_wp f_wp);(try clear z_wp);have z_wp:=zz;clear zz;(try clear l_wp);obtain ⟨x_wp,f_wp,l_wp⟩:=bO z_wp;have zz:=gQ gr8 (b:=w20.heap.size) v_w20;(first|(simp [go_sem,z_w20,l_w20] at zz)|(simp [go_sem] at zz));(try clear x_w20 f_w20);(try clear z_w20);have z_w20:=zz;clear zz;(try clear l_w20);obtain ⟨x_w20,f_w20,l_w20⟩:=bO z_w20;have zz:=gQ gr8 (b:=w20.heap.size+1) v_w20p;(first|(simp [go_sem,z_w20p,l_w20p] at zz)|(simp [go_sem] at zz));(try clear x_w20p f_w20p);(try clear z_w20p);have z_w20p:=zz;clear zz;(try clear l_w20p);obtain ⟨x_w20p,f_w20p,l_w20p⟩:=bO z_w20p
                  refine wpAnyH_take (i:=10) (oi:=⟨some 174,_,_,_,_,_⟩) (v:=?_) rfl (by kernel_rfl) (by kernel_rfl) (by kernel_rfl) (fun _ _ _ h=>h) (Or.inl ⟨by rfl,?_⟩) (by assumption) ?_;rotate_left;(focus (intro w' hSw;(try dsimp only at hSw);go_simp;(try with_reducible rfl)));(try rotate_left);(try simp only [Act.put,List.setIfInBounds_toArray,List.set_cons_zero,List.set_cons_succ])
                  refine wpAnyH_ready (rs:=[11]) (by kernel_rfl) (by simp) ?_
                  refine AllReadyH.cons (o:=⟨none,_,_,_,_,_⟩) rfl (fun K hK=>?_) AllReadyH.nil
                  · skip
                    go_simp
                    refine hK.out _ _ trivial (fun _=>?_)
                    clear hK
                    (try simp only [Act.put,List.setIfInBounds_toArray,List.set_cons_zero,List.set_cons_succ])
                    refine wpAnyH_done (by kernel_rfl) ?_ _
                    refine NoPanic.normal ?_
                    have o9:=OInts.zeros o8
                    have NG1:(Value.slice (some ⟨g8,0,none⟩) (y.ch.words.length+k) q8).ownBlock≠some (w20.heap.size+1):=fun e=>by
                      rcases hat with hat|hat
                      · exact N4 (by rw [hat];exact e)
                      · simp [Value.ownBlock] at e
                        omega
                    go_wp2_with fail
                    go_meet
                    exact ⟨{ y.ch with words:=y.ch.words ++ List.replicate k 0 },hh,.slice (some ⟨gc,0,none⟩) y.ch.cells.length c1,.slice (some ⟨g8,0,none⟩) (y.ch.words.length+k) q8,(by (repeat first|with_reducible exact G5|with_reducible refine oAl ?_ _|with_reducible refine oDr ?_|((with_reducible first|refine own_store ?_ ?_ _|refine own_box ?_ ?_);rotate_left;focus first|(refine own_ne G5 ?_;(try dsimp only);omega)|(refine own_ne' G5 ?_;(try dsimp only);omega)|exact N3))),(by (repeat first|with_reducible exact o9|with_reducible refine oAl ?_ _|with_reducible refine oDr ?_|((with_reducible first|refine own_store ?_ ?_ _|refine own_box ?_ ?_);rotate_left;focus first|(refine own_ne o9 ?_;(try dsimp only);omega)|(refine own_ne' o9 ?_;(try dsimp only);omega)|exact NG1))),(show y.ch.cells.length=40 by omega),(show (y.ch.words ++ List.replicate k 0).length≤80 by rw [List.length_append,List.length_replicate];omega),by simp [go_sem, *] <;> rfl,by simp [go_sem, *],by simp [go_sem, *],by simp [go_sem, *],by (repeat (first|with_reducible assumption|with_reducible refine DS.alloc ?_|with_reducible refine DS.drew ?_|((with_reducible first|refine DS.setCell ?_ ?_ ?_|refine DS.box ?_ ?_ ?_);rotate_left;(focus ((try simp);(try omega)));(focus ((try simp);(try omega)))))),by (repeat (first|with_reducible assumption|with_reducible exact gR _ _|with_reducible refine gA ?_|with_reducible refine gD ?_|((with_reducible first|refine gS ?_ (.inr ?_)|refine gBx ?_ (.inr ?_));rotate_left;(focus ((try simp);(try omega))))))⟩
          · skip
            go_simp
            refine hK.out _ _ trivial (fun _=>?_)
            clear hK
            (try simp only [Act.put,List.setIfInBounds_toArray,List.set_cons_zero,List.set_cons_succ])
            refine wpAnyH_take (i:=4) (oi:=⟨some 168,_,_,_,_,_⟩) (v:=?_) rfl (by kernel_rfl) (by kernel_rfl) (by kernel_rfl) (fun _ _ _ h=>h) (Or.inl ⟨by rfl,?_⟩) (by assumption) ?_;rotate_left;(focus (intro w' hSw;(try dsimp only at hSw);go_simp;(try with_reducible rfl)));(try rotate_left);(try simp only [Act.put,List.setIfInBounds_toArray,List.set_cons_zero,List.set_cons_succ])
            refine wpAnyH_take (i:=5) (oi:=⟨some 169,_,_,_,_,_⟩) (v:=?_) rfl (by kernel_rfl) (by kernel_rfl) (by kernel_rfl) (fun _ _ _ h=>h) (Or.inl ⟨by rfl,?_⟩) (by assumption) ?_;rotate_left;(focus (intro w' hSw;(try dsimp only at hSw);go_simp;(try with_reducible rfl)));(try rotate_left);(try simp only [Act.put,List.setIfInBounds_toArray,List.set_cons_zero,List.set_cons_succ])
            refine wpAnyH_ready (rs:=[1,7]) (by kernel_rfl) (by simp) ?_
            refine AllReadyH.cons (o:=⟨some 165,_,_,_,_,_⟩) rfl (fun K hK=>?_) (AllReadyH.cons (o:=⟨some 171,_,_,_,_,_⟩) rfl (fun K hK=>?_) AllReadyH.nil)
            · skip
              go_simp
              refine hK.out _ _ trivial (fun _=>?_)
              clear hK
              (try simp only [Act.put,List.setIfInBounds_toArray,List.set_cons_zero,List.set_cons_succ])
              refine wpAnyH_ready (rs:=[7]) (by kernel_rfl) (by simp) ?_
              refine AllReadyH.cons (o:=⟨some 171,_,_,_,_,_⟩) rfl (fun K hK=>?_) AllReadyH.nil
              · skip
                go_simp
                go_at_call 49
                refine (l1Below_any B g 2 _ (by (repeat (first|with_reducible assumption|with_reducible refine DS.alloc ?_|with_reducible refine DS.drew ?_|((with_reducible first|refine DS.setCell ?_ ?_ ?_|refine DS.box ?_ ?_ ?_);rotate_left;(focus ((try simp);(try omega)));(focus ((try simp);(try omega))))))) (by omega) (by omega)).mono ?_
                rintro _ w23 ⟨⟨x4,rfl,h40,h41⟩,hdw23,hgw23⟩
                have hGw23:Gr g w w23:=gT (by (repeat (first|with_reducible assumption|with_reducible exact gR _ _|with_reducible refine gA ?_|with_reducible refine gD ?_|((with_reducible first|refine gS ?_ (.inr ?_)|refine gBx ?_ (.inr ?_));rotate_left;(focus ((try simp);(try omega))))))) hgw23
                have hsw23:=hgw23.size;(try (simp at hsw23));have zz:=gQ hgw23 (b:=w.heap.size) m_w;(first|(simp [go_sem,z_w,l_w] at zz)|(simp [go_sem] at zz));(try clear x_w f_w);(try clear z_w);have z_w:=zz;clear zz;(try clear l_w);obtain ⟨x_w,f_w,l_w⟩:=bO z_w;have zz:=gQ hgw23 (b:=w.heap.size+1) m_wp;(first|(simp [go_sem,z_wp,l_wp] at zz)|(simp [go_sem] at zz));(try clear x_wp f_wp);(try clear z_wp);have z_wp:=zz;clear zz;(try clear l_wp);obtain ⟨x_wp,f_wp,l_wp⟩:=bO z_wp;have zz:=gQ hgw23 (b:=w20.heap.size) m_w20;(first|(simp [go_sem,z_w20,l_w20] at zz)|(simp [go_sem] at zz));(try clear x_w20 f_w20);(try clear z_w20);have z_w20:=zz;clear zz;(try clear l_w20);obtain ⟨x_w20,f_w20,l_w20⟩:=bO z_w20;have zz:=gQ hgw23 (b:=w20.heap.size+1) m_w20p;(first|(simp [go_sem,z_w20p,l_w20p] at zz)|(simp [go_sem] at zz));(try clear x_w20p f_w20p);(try clear z_w20p);have z_w20p:=zz;clear zz;(try clear l_w20p);obtain ⟨x_w20p,f_w20p,l_w20p⟩:=bO z_w20p
                have G3:=World.ownsRow.kept (oDr G1) hgw23 (.inr (own_ne G1 (by omega)))
                have G4:=World.ownsRow.kept (oDr G2) hgw23 (.inr (own_ne G2 (by omega)))
                obtain ⟨k,hk⟩:∃ k:Nat,80 - (y.ch.words.length:Int) - x4=(k:Int):=⟨(80 - (y.ch.words.length:Int) - x4).toNat,by omega⟩
                have hk0:0<k:=by omega
                have hk1:y.ch.words.length+k≤80:=by omega
                have hwc:IntKind.i64.wrap (k:Int)=(k:Int):=IntWalk.i64_in _ (by omega)
                have hwd:wrap64 (k:Int)=(k:Int):=IntWalk.wrap64_in _ (by omega)
                refine hK.out _ _ trivial (fun _=>?_)
                clear hK
                (try simp only [Act.put,List.setIfInBounds_toArray,List.set_cons_zero,List.set_cons_succ])
                refine wpAnyH_take (i:=8) (oi:=⟨some 172,_,_,_,_,_⟩) (v:=?_) rfl (by kernel_rfl) (by kernel_rfl) (by kernel_rfl) (fun _ _ _ h=>h) (Or.inl ⟨by rfl,?_⟩) (by assumption) ?_;rotate_left;(focus (intro w' hSw;(try dsimp only at hSw);go_simp;(try with_reducible rfl)));(try rotate_left);(try simp only [Act.put,List.setIfInBounds_toArray,List.set_cons_zero,List.set_cons_succ])
                refine wpAnyH_ready (rs:=[9]) (by kernel_rfl) (by simp) ?_
                refine AllReadyH.cons (o:=⟨some 173,_,_,_,_,_⟩) rfl (fun K hK=>?_) AllReadyH.nil
                · skip
                  refine step_zeros _ (by rfl) _ _ _ _ (by rfl) (w.heap.size+2) 2 i0 _ .i64 1 8 Tryz.underlying25 Tryz.underlying2 hi0 hz0 hz1 hz2 rfl (by omega) (Value.slice a2 y.ch.words.length c2) _ _ (by rfl) G4 k (by rfl) hk0 (by rw [zeros_ints];exact ints_one _) (by unfold maxLen;omega) (by omega) (by omega) w23.heap.size rfl ?_
                  intro g8 q8 w8 o8 gr8 hat hlt8
                  refine hK.out _ _ trivial (fun _=>?_)
                  clear hK
                  (try simp only [Act.put,List.setIfInBounds_toArray,List.set_cons_zero,List.set_cons_succ])
                  have hdw8:DS w8 B g:=DS.grown hdw23 gr8 (fun i e=>by have:=(World.ownsRow.lt G4 i e).1;omega)
                  have hGw8:Gr g w w8:=Gr.grown hGw23 gr8 (fun i e=>by have:=(World.ownsRow.lt G4 i e).1;omega)
                  have G5:=World.ownsRow.kept G3 gr8 (.inr NEc)
                  have hsw8:=gr8.size;(try (simp at hsw8));have zz:=gQ gr8 (b:=w.heap.size) v_w;(first|(simp [go_sem,z_w,l_w] at zz)|(simp [go_sem] at zz));(try clear x_w f_w);(try clear z_w);have z_w:=zz;clear zz;(try clear l_w);obtain ⟨x_w,f_w,l_w⟩:=bO z_w;have zz:=gQ gr8 (b:=w.heap.size+1) v_wp;(first|(simp [go_sem,z_wp,l_wp] at zz)|(simp [go_sem] at zz));(try clear x_wp f_wp);(try clear z_wp);have z_wp:=zz;clear zz;(try clear l_wp);obtain ⟨x_wp,f_wp,l_wp⟩:=bO z_wp;have zz:=gQ gr8 (b:=w20.heap.size) v_w20;(first|(simp [go_sem,z_w20,l_w20] at zz)|(simp [go_sem] at zz));(try clear x_w20 f_w20);(try clear z_w20);have z_w20:=zz;clear zz;(try clear l_w20);obtain ⟨x_w20,f_w20,l_w20⟩:=bO z_w20;have zz:=gQ gr8 (b:=w20.heap.size+1) v_w20p;(first|(simp [go_sem,z_w20p,l_w20p] at zz)|(simp [go_sem] at zz));(try clear x_w20p f_w20p);(try clear z_w20p);have z_w20p:=zz;clear zz;(try clear l_w20p);obtain ⟨x_w20p,f_w20p,l_w20p⟩:=bO z_w20p
                  refine wpAnyH_take (i:=10) (oi:=⟨some 174,_,_,_,_,_⟩) (v:=?_) rfl (by kernel_rfl) (by kernel_rfl) (by kernel_rfl) (fun _ _ _ h=>h) (Or.inl ⟨by rfl,?_⟩) (by assumption) ?_;rotate_left;(focus (intro w' hSw;(try dsimp only at hSw);go_simp;(try with_reducible rfl)));(try rotate_left);(try simp only [Act.put,List.setIfInBounds_toArray,List.set_cons_zero,List.set_cons_succ])
                  refine wpAnyH_ready (rs:=[11]) (by kernel_rfl) (by simp) ?_
                  refine AllReadyH.cons (o:=⟨none,_,_,_,_,_⟩) rfl (fun K hK=>?_) AllReadyH.nil
                  · skip
                    go_simp
                    refine hK.out _ _ trivial (fun _=>?_)
                    clear hK
                    (try simp only [Act.put,List.setIfInBounds_toArray,List.set_cons_zero,List.set_cons_succ])
                    refine wpAnyH_done (by kernel_rfl) ?_ _
                    refine NoPanic.normal ?_
                    have o9:=OInts.zeros o8
                    have NG1:(Value.slice (some ⟨g8,0,none⟩) (y.ch.words.length+k) q8).ownBlock≠some (w20.heap.size+1):=fun e=>by
                      rcases hat with hat|hat
                      · exact N4 (by rw [hat];exact e)
                      · simp [Value.ownBlock] at e
                        omega
                    go_wp2_with fail
                    go_meet
                    exact ⟨{ y.ch with words:=y.ch.words ++ List.replicate k 0 },hh,.slice (some ⟨gc,0,none⟩) y.ch.cells.length c1,.slice (some ⟨g8,0,none⟩) (y.ch.words.length+k) q8,(by (repeat first|with_reducible exact G5|with_reducible refine oAl ?_ _|with_reducible refine oDr ?_|((with_reducible first|refine own_store ?_ ?_ _|refine own_box ?_ ?_);rotate_left;focus first|(refine own_ne G5 ?_;(try dsimp only);omega)|(refine own_ne' G5 ?_;(try dsimp only);omega)|exact N3))),(by (repeat first|with_reducible exact o9|with_reducible refine oAl ?_ _|with_reducible refine oDr ?_|((with_reducible first|refine own_store ?_ ?_ _|refine own_box ?_ ?_);rotate_left;focus first|(refine own_ne o9 ?_;(try dsimp only);omega)|(refine own_ne' o9 ?_;(try dsimp only);omega)|exact NG1))),(show y.ch.cells.length=40 by omega),(show (y.ch.words ++ List.replicate k 0).length≤80 by rw [List.length_append,List.length_replicate];omega),by simp [go_sem, *] <;> rfl,by simp [go_sem, *],by simp [go_sem, *],by simp [go_sem, *],by (repeat (first|with_reducible assumption|with_reducible refine DS.alloc ?_|with_reducible refine DS.drew ?_|((with_reducible first|refine DS.setCell ?_ ?_ ?_|refine DS.box ?_ ?_ ?_);rotate_left;(focus ((try simp);(try omega)));(focus ((try simp);(try omega)))))),by (repeat (first|with_reducible assumption|with_reducible exact gR _ _|with_reducible refine gA ?_|with_reducible refine gD ?_|((with_reducible first|refine gS ?_ (.inr ?_)|refine gBx ?_ (.inr ?_));rotate_left;(focus ((try simp);(try omega))))))⟩
            · skip
              go_simp
              go_at_call 49
              refine (l1Below_any B g 2 _ (by (repeat (first|with_reducible assumption|with_reducible refine DS.alloc ?_|with_reducible refine DS.drew ?_|((with_reducible first|refine DS.setCell ?_ ?_ ?_|refine DS.box ?_ ?_ ?_);rotate_left;(focus ((try simp);(try omega)));(focus ((try simp);(try omega))))))) (by omega) (by omega)).mono ?_
              rintro _ w23 ⟨⟨x4,rfl,h40,h41⟩,hdw23,hgw23⟩
              have hGw23:Gr g w w23:=gT (by (repeat (first|with_reducible assumption|with_reducible exact gR _ _|with_reducible refine gA ?_|with_reducible refine gD ?_|((with_reducible first|refine gS ?_ (.inr ?_)|refine gBx ?_ (.inr ?_));rotate_left;(focus ((try simp);(try omega))))))) hgw23
              have hsw23:=hgw23.size;(try (simp at hsw23));have zz:=gQ hgw23 (b:=w.heap.size) m_w;(first|(simp [go_sem,z_w,l_w] at zz)|(simp [go_sem] at zz));(try clear x_w f_w);(try clear z_w);have z_w:=zz;clear zz;(try clear l_w);obtain ⟨x_w,f_w,l_w⟩:=bO z_w;have zz:=gQ hgw23 (b:=w.heap.size+1) m_wp;(first|(simp [go_sem,z_wp,l_wp] at zz)|(simp [go_sem] at zz));(try clear x_wp f_wp);(try clear z_wp);have z_wp:=zz;clear zz;(try clear l_wp);obtain ⟨x_wp,f_wp,l_wp⟩:=bO z_wp;have zz:=gQ hgw23 (b:=w20.heap.size) m_w20;(first|(simp [go_sem,z_w20,l_w20] at zz)|(simp [go_sem] at zz));(try clear x_w20 f_w20);(try clear z_w20);have z_w20:=zz;clear zz;(try clear l_w20);obtain ⟨x_w20,f_w20,l_w20⟩:=bO z_w20;have zz:=gQ hgw23 (b:=w20.heap.size+1) m_w20p;(first|(simp [go_sem,z_w20p,l_w20p] at zz)|(simp [go_sem] at zz));(try clear x_w20p f_w20p);(try clear z_w20p);have z_w20p:=zz;clear zz;(try clear l_w20p);obtain ⟨x_w20p,f_w20p,l_w20p⟩:=bO z_w20p
              have G3:=World.ownsRow.kept (oDr G1) hgw23 (.inr (own_ne G1 (by omega)))
              have G4:=World.ownsRow.kept (oDr G2) hgw23 (.inr (own_ne G2 (by omega)))
              obtain ⟨k,hk⟩:∃ k:Nat,80 - (y.ch.words.length:Int) - x4=(k:Int):=⟨(80 - (y.ch.words.length:Int) - x4).toNat,by omega⟩
              have hk0:0<k:=by omega
              have hk1:y.ch.words.length+k≤80:=by omega
              have hwc:IntKind.i64.wrap (k:Int)=(k:Int):=IntWalk.i64_in _ (by omega)
              have hwd:wrap64 (k:Int)=(k:Int):=IntWalk.wrap64_in _ (by omega)
              refine hK.out _ _ trivial (fun _=>?_)
              clear hK
              (try simp only [Act.put,List.setIfInBounds_toArray,List.set_cons_zero,List.set_cons_succ])
              refine wpAnyH_take (i:=8) (oi:=⟨some 172,_,_,_,_,_⟩) (v:=?_) rfl (by kernel_rfl) (by kernel_rfl) (by kernel_rfl) (fun _ _ _ h=>h) (Or.inl ⟨by rfl,?_⟩) (by assumption) ?_;rotate_left;(focus (intro w' hSw;(try dsimp only at hSw);go_simp;(try with_reducible rfl)));(try rotate_left);(try simp only [Act.put,List.setIfInBounds_toArray,List.set_cons_zero,List.set_cons_succ])
              refine wpAnyH_ready (rs:=[1]) (by kernel_rfl) (by simp) ?_
              refine AllReadyH.cons (o:=⟨some 165,_,_,_,_,_⟩) rfl (fun K hK=>?_) AllReadyH.nil
              · skip
                go_simp
                refine hK.out _ _ trivial (fun _=>?_)
                clear hK
                (try simp only [Act.put,List.setIfInBounds_toArray,List.set_cons_zero,List.set_cons_succ])
                refine wpAnyH_ready (rs:=[9]) (by kernel_rfl) (by simp) ?_
                refine AllReadyH.cons (o:=⟨some 173,_,_,_,_,_⟩) rfl (fun K hK=>?_) AllReadyH.nil
                · skip
                  refine step_zeros _ (by rfl) _ _ _ _ (by rfl) (w.heap.size+2) 2 i0 _ .i64 1 8 Tryz.underlying25 Tryz.underlying2 hi0 hz0 hz1 hz2 rfl (by omega) (Value.slice a2 y.ch.words.length c2) _ _ (by rfl) G4 k (by rfl) hk0 (by rw [zeros_ints];exact ints_one _) (by unfold maxLen;omega) (by omega) (by omega) w23.heap.size rfl ?_
                  intro g8 q8 w8 o8 gr8 hat hlt8
                  refine hK.out _ _ trivial (fun _=>?_)
                  clear hK
                  (try simp only [Act.put,List.setIfInBounds_toArray,List.set_cons_zero,List.set_cons_succ])
                  have hdw8:DS w8 B g:=DS.grown hdw23 gr8 (fun i e=>by have:=(World.ownsRow.lt G4 i e).1;omega)
                  have hGw8:Gr g w w8:=Gr.grown hGw23 gr8 (fun i e=>by have:=(World.ownsRow.lt G4 i e).1;omega)
                  have G5:=World.ownsRow.kept G3 gr8 (.inr NEc)
                  have hsw8:=gr8.size;(try (simp at hsw8));have zz:=gQ gr8 (b:=w.heap.size) v_w;(first|(simp [go_sem,z_w,l_w] at zz)|(simp [go_sem] at zz));(try clear x_w f_w);(try clear z_w);have z_w:=zz;clear zz;(try clear l_w);obtain ⟨x_w,f_w,l_w⟩:=bO z_w;have zz:=gQ gr8 (b:=w.heap.size+1) v_wp;(first|(simp [go_sem,z_wp,l_wp] at zz)|(simp [go_sem] at zz));(try clear x_wp f_wp);(try clear z_wp);have z_wp:=zz;clear zz;(try clear l_wp);obtain ⟨x_wp,f_wp,l_wp⟩:=bO z_wp;have zz:=gQ gr8 (b:=w20.heap.size) v_w20;(first|(simp [go_sem,z_w20,l_w20] at zz)|(simp [go_sem] at zz));(try clear x_w20 f_w20);(try clear z_w20);have z_w20:=zz;clear zz;(try clear l_w20);obtain ⟨x_w20,f_w20,l_w20⟩:=bO z_w20;have zz:=gQ gr8 (b:=w20.heap.size+1) v_w20p;(first|(simp [go_sem,z_w20p,l_w20p] at zz)|(simp [go_sem] at zz));(try clear x_w20p f_w20p);(try clear z_w20p);have z_w20p:=zz;clear zz;(try clear l_w20p);obtain ⟨x_w20p,f_w20p,l_w20p⟩:=bO z_w20p
                  refine wpAnyH_take (i:=10) (oi:=⟨some 174,_,_,_,_,_⟩) (v:=?_) rfl (by kernel_rfl) (by kernel_rfl) (by kernel_rfl) (fun _ _ _ h=>h) (Or.inl ⟨by rfl,?_⟩) (by assumption) ?_;rotate_left;(focus (intro w' hSw;(try dsimp only at hSw);go_simp;(try with_reducible rfl)));(try rotate_left);(try simp only [Act.put,List.setIfInBounds_toArray,List.set_cons_zero,List.set_cons_succ])
                  refine wpAnyH_ready (rs:=[11]) (by kernel_rfl) (by simp) ?_
                  refine AllReadyH.cons (o:=⟨none,_,_,_,_,_⟩) rfl (fun K hK=>?_) AllReadyH.nil
                  · skip
                    go_simp
                    refine hK.out _ _ trivial (fun _=>?_)
                    clear hK
                    (try simp only [Act.put,List.setIfInBounds_toArray,List.set_cons_zero,List.set_cons_succ])
                    refine wpAnyH_done (by kernel_rfl) ?_ _
                    refine NoPanic.normal ?_
                    have o9:=OInts.zeros o8
                    have NG1:(Value.slice (some ⟨g8,0,none⟩) (y.ch.words.length+k) q8).ownBlock≠some (w20.heap.size+1):=fun e=>by
                      rcases hat with hat|hat
                      · exact N4 (by rw [hat];exact e)
                      · simp [Value.ownBlock] at e
                        omega
                    go_wp2_with fail
                    go_meet
                    exact ⟨{ y.ch with words:=y.ch.words ++ List.replicate k 0 },hh,.slice (some ⟨gc,0,none⟩) y.ch.cells.length c1,.slice (some ⟨g8,0,none⟩) (y.ch.words.length+k) q8,(by (repeat first|with_reducible exact G5|with_reducible refine oAl ?_ _|with_reducible refine oDr ?_|((with_reducible first|refine own_store ?_ ?_ _|refine own_box ?_ ?_);rotate_left;focus first|(refine own_ne G5 ?_;(try dsimp only);omega)|(refine own_ne' G5 ?_;(try dsimp only);omega)|exact N3))),(by (repeat first|with_reducible exact o9|with_reducible refine oAl ?_ _|with_reducible refine oDr ?_|((with_reducible first|refine own_store ?_ ?_ _|refine own_box ?_ ?_);rotate_left;focus first|(refine own_ne o9 ?_;(try dsimp only);omega)|(refine own_ne' o9 ?_;(try dsimp only);omega)|exact NG1))),(show y.ch.cells.length=40 by omega),(show (y.ch.words ++ List.replicate k 0).length≤80 by rw [List.length_append,List.length_replicate];omega),by simp [go_sem, *] <;> rfl,by simp [go_sem, *],by simp [go_sem, *],by simp [go_sem, *],by (repeat (first|with_reducible assumption|with_reducible refine DS.alloc ?_|with_reducible refine DS.drew ?_|((with_reducible first|refine DS.setCell ?_ ?_ ?_|refine DS.box ?_ ?_ ?_);rotate_left;(focus ((try simp);(try omega)));(focus ((try simp);(try omega)))))),by (repeat (first|with_reducible assumption|with_reducible exact gR _ _|with_reducible refine gA ?_|with_reducible refine gD ?_|((with_reducible first|refine gS ?_ (.inr ?_)|refine gBx ?_ (.inr ?_));rotate_left;(focus ((try simp);(try omega))))))⟩
          · skip
            go_simp
            go_at_call 49
            refine (l1Below_any B g 2 _ (by (repeat (first|with_reducible assumption|with_reducible refine DS.alloc ?_|with_reducible refine DS.drew ?_|((with_reducible first|refine DS.setCell ?_ ?_ ?_|refine DS.box ?_ ?_ ?_);rotate_left;(focus ((try simp);(try omega)));(focus ((try simp);(try omega))))))) (by omega) (by omega)).mono ?_
            rintro _ w23 ⟨⟨x4,rfl,h40,h41⟩,hdw23,hgw23⟩
            have hGw23:Gr g w w23:=gT (by (repeat (first|with_reducible assumption|with_reducible exact gR _ _|with_reducible refine gA ?_|with_reducible refine gD ?_|((with_reducible first|refine gS ?_ (.inr ?_)|refine gBx ?_ (.inr ?_));rotate_left;(focus ((try simp);(try omega))))))) hgw23
            have hsw23:=hgw23.size;(try (simp at hsw23));have zz:=gQ hgw23 (b:=w.heap.size) m_w;(first|(simp [go_sem,z_w,l_w] at zz)|(simp [go_sem] at zz));(try clear x_w f_w);(try clear z_w);have z_w:=zz;clear zz;(try clear l_w);obtain ⟨x_w,f_w,l_w⟩:=bO z_w;have zz:=gQ hgw23 (b:=w.heap.size+1) m_wp;(first|(simp [go_sem,z_wp,l_wp] at zz)|(simp [go_sem] at zz));(try clear x_wp f_wp);(try clear z_wp);have z_wp:=zz;clear zz;(try clear l_wp);obtain ⟨x_wp,f_wp,l_wp⟩:=bO z_wp;have zz:=gQ hgw23 (b:=w20.heap.size) m_w20;(first|(simp [go_sem,z_w20,l_w20] at zz)|(simp [go_sem] at zz));(try clear x_w20 f_w20);(try clear z_w20);have z_w20:=zz;clear zz;(try clear l_w20);obtain ⟨x_w20,f_w20,l_w20⟩:=bO z_w20;have zz:=gQ hgw23 (b:=w20.heap.size+1) m_w20p;(first|(simp [go_sem,z_w20p,l_w20p] at zz)|(simp [go_sem] at zz));(try clear x_w20p f_w20p);(try clear z_w20p);have z_w20p:=zz;clear zz;(try clear l_w20p);obtain ⟨x_w20p,f_w20p,l_w20p⟩:=bO z_w20p
            have G3:=World.ownsRow.kept (oDr G1) hgw23 (.inr (own_ne G1 (by omega)))
            have G4:=World.ownsRow.kept (oDr G2) hgw23 (.inr (own_ne G2 (by omega)))
            obtain ⟨k,hk⟩:∃ k:Nat,80 - (y.ch.words.length:Int) - x4=(k:Int):=⟨(80 - (y.ch.words.length:Int) - x4).toNat,by omega⟩
            have hk0:0<k:=by omega
            have hk1:y.ch.words.length+k≤80:=by omega
            have hwc:IntKind.i64.wrap (k:Int)=(k:Int):=IntWalk.i64_in _ (by omega)
            have hwd:wrap64 (k:Int)=(k:Int):=IntWalk.wrap64_in _ (by omega)
            refine hK.out _ _ trivial (fun _=>?_)
            clear hK
            (try simp only [Act.put,List.setIfInBounds_toArray,List.set_cons_zero,List.set_cons_succ])
            refine wpAnyH_ready (rs:=[1,3]) (by kernel_rfl) (by simp) ?_
            refine AllReadyH.cons (o:=⟨some 165,_,_,_,_,_⟩) rfl (fun K hK=>?_) (AllReadyH.cons (o:=⟨some 167,_,_,_,_,_⟩) rfl (fun K hK=>?_) AllReadyH.nil)
            · skip
              go_simp
              refine hK.out _ _ trivial (fun _=>?_)
              clear hK
              (try simp only [Act.put,List.setIfInBounds_toArray,List.set_cons_zero,List.set_cons_succ])
              refine wpAnyH_ready (rs:=[3]) (by kernel_rfl) (by simp) ?_
              refine AllReadyH.cons (o:=⟨some 167,_,_,_,_,_⟩) rfl (fun K hK=>?_) AllReadyH.nil
              · skip
                go_simp
                refine hK.out _ _ trivial (fun _=>?_)
                clear hK
                (try simp only [Act.put,List.setIfInBounds_toArray,List.set_cons_zero,List.set_cons_succ])
                refine wpAnyH_take (i:=4) (oi:=⟨some 168,_,_,_,_,_⟩) (v:=?_) rfl (by kernel_rfl) (by kernel_rfl) (by kernel_rfl) (fun _ _ _ h=>h) (Or.inl ⟨by rfl,?_⟩) (by assumption) ?_;rotate_left;(focus (intro w' hSw;(try dsimp only at hSw);go_simp;(try with_reducible rfl)));(try rotate_left);(try simp only [Act.put,List.setIfInBounds_toArray,List.set_cons_zero,List.set_cons_succ])
                refine wpAnyH_take (i:=5) (oi:=⟨some 169,_,_,_,_,_⟩) (v:=?_) rfl (by kernel_rfl) (by kernel_rfl) (by kernel_rfl) (fun _ _ _ h=>h) (Or.inl ⟨by rfl,?_⟩) (by assumption) ?_;rotate_left;(focus (intro w' hSw;(try dsimp only at hSw);go_simp;(try with_reducible rfl)));(try rotate_left);(try simp only [Act.put,List.setIfInBounds_toArray,List.set_cons_zero,List.set_cons_succ])
                refine wpAnyH_take (i:=8) (oi:=⟨some 172,_,_,_,_,_⟩) (v:=?_) rfl (by kernel_rfl) (by kernel_rfl) (by kernel_rfl) (fun _ _ _ h=>h) (Or.inl ⟨by rfl,?_⟩) (by assumption) ?_;rotate_left;(focus (intro w' hSw;(try dsimp only at hSw);go_simp;(try with_reducible rfl)));(try rotate_left);(try simp only [Act.put,List.setIfInBounds_toArray,List.set_cons_zero,List.set_cons_succ])
                refine wpAnyH_ready (rs:=[9]) (by kernel_rfl) (by simp) ?_
                refine AllReadyH.cons (o:=⟨some 173,_,_,_,_,_⟩) rfl (fun K hK=>?_) AllReadyH.nil
                · skip
                  refine step_zeros _ (by rfl) _ _ _ _ (by rfl) (w.heap.size+2) 2 i0 _ .i64 1 8 Tryz.underlying25 Tryz.underlying2 hi0 hz0 hz1 hz2 rfl (by omega) (Value.slice a2 y.ch.words.length c2) _ _ (by rfl) G4 k (by rfl) hk0 (by rw [zeros_ints];exact ints_one _) (by unfold maxLen;omega) (by omega) (by omega) w23.heap.size rfl ?_
                  intro g8 q8 w8 o8 gr8 hat hlt8
                  refine hK.out _ _ trivial (fun _=>?_)
                  clear hK
                  (try simp only [Act.put,List.setIfInBounds_toArray,List.set_cons_zero,List.set_cons_succ])
                  have hdw8:DS w8 B g:=DS.grown hdw23 gr8 (fun i e=>by have:=(World.ownsRow.lt G4 i e).1;omega)
                  have hGw8:Gr g w w8:=Gr.grown hGw23 gr8 (fun i e=>by have:=(World.ownsRow.lt G4 i e).1;omega)
                  have G5:=World.ownsRow.kept G3 gr8 (.inr NEc)
                  have hsw8:=gr8.size;(try (simp at hsw8));have zz:=gQ gr8 (b:=w.heap.size) v_w;(first|(simp [go_sem,z_w,l_w] at zz)|(simp [go_sem] at zz));(try clear x_w f_w);(try clear z_w);have z_w:=zz;clear zz;(try clear l_w);obtain ⟨x_w,f_w,l_w⟩:=bO z_w;have zz:=gQ gr8 (b:=w.heap.size+1) v_wp;(first|(simp [go_sem,z_wp,l_wp] at zz)|(simp [go_sem] at zz));(try clear x_wp f_wp);(try clear z_wp);have z_wp:=zz;clear zz;(try clear l_wp);obtain ⟨x_wp,f_wp,l_wp⟩:=bO z_wp;have zz:=gQ gr8 (b:=w20.heap.size) v_w20;(first|(simp [go_sem,z_w20,l_w20] at zz)|(simp [go_sem] at zz));(try clear x_w20 f_w20);(try clear z_w20);have z_w20:=zz;clear zz;(try clear l_w20);obtain ⟨x_w20,f_w20,l_w20⟩:=bO z_w20;have zz:=gQ gr8 (b:=w20.heap.size+1) v_w20p;(first|(simp [go_sem,z_w20p,l_w20p] at zz)|(simp [go_sem] at zz));(try clear x_w20p f_w20p);(try clear z_w20p);have z_w20p:=zz;clear zz;(try clear l_w20p);obtain ⟨x_w20p,f_w20p,l_w20p⟩:=bO z_w20p
                  refine wpAnyH_take (i:=10) (oi:=⟨some 174,_,_,_,_,_⟩) (v:=?_) rfl (by kernel_rfl) (by kernel_rfl) (by kernel_rfl) (fun _ _ _ h=>h) (Or.inl ⟨by rfl,?_⟩) (by assumption) ?_;rotate_left;(focus (intro w' hSw;(try dsimp only at hSw);go_simp;(try with_reducible rfl)));(try rotate_left);(try simp only [Act.put,List.setIfInBounds_toArray,List.set_cons_zero,List.set_cons_succ])
                  refine wpAnyH_ready (rs:=[11]) (by kernel_rfl) (by simp) ?_
                  refine AllReadyH.cons (o:=⟨none,_,_,_,_,_⟩) rfl (fun K hK=>?_) AllReadyH.nil
                  · skip
                    go_simp
                    refine hK.out _ _ trivial (fun _=>?_)
                    clear hK
                    (try simp only [Act.put,List.setIfInBounds_toArray,List.set_cons_zero,List.set_cons_succ])
                    refine wpAnyH_done (by kernel_rfl) ?_ _
                    refine NoPanic.normal ?_
                    have o9:=OInts.zeros o8
                    have NG1:(Value.slice (some ⟨g8,0,none⟩) (y.ch.words.length+k) q8).ownBlock≠some (w20.heap.size+1):=fun e=>by
                      rcases hat with hat|hat
                      · exact N4 (by rw [hat];exact e)
                      · simp [Value.ownBlock] at e
                        omega
                    go_wp2_with fail
                    go_meet
                    exact ⟨{ y.ch with words:=y.ch.words ++ List.replicate k 0 },hh,.slice (some ⟨gc,0,none⟩) y.ch.cells.length c1,.slice (some ⟨g8,0,none⟩) (y.ch.words.length+k) q8,(by (repeat first|with_reducible exact G5|with_reducible refine oAl ?_ _|with_reducible refine oDr ?_|((with_reducible first|refine own_store ?_ ?_ _|refine own_box ?_ ?_);rotate_left;focus first|(refine own_ne G5 ?_;(try dsimp only);omega)|(refine own_ne' G5 ?_;(try dsimp only);omega)|exact N3))),(by (repeat first|with_reducible exact o9|with_reducible refine oAl ?_ _|with_reducible refine oDr ?_|((with_reducible first|refine own_store ?_ ?_ _|refine own_box ?_ ?_);rotate_left;focus first|(refine own_ne o9 ?_;(try dsimp only);omega)|(refine own_ne' o9 ?_;(try dsimp only);omega)|exact NG1))),(show y.ch.cells.length=40 by omega),(show (y.ch.words ++ List.replicate k 0).length≤80 by rw [List.length_append,List.length_replicate];omega),by simp [go_sem, *] <;> rfl,by simp [go_sem, *],by simp [go_sem, *],by simp [go_sem, *],by (repeat (first|with_reducible assumption|with_reducible refine DS.alloc ?_|with_reducible refine DS.drew ?_|((with_reducible first|refine DS.setCell ?_ ?_ ?_|refine DS.box ?_ ?_ ?_);rotate_left;(focus ((try simp);(try omega)));(focus ((try simp);(try omega)))))),by (repeat (first|with_reducible assumption|with_reducible exact gR _ _|with_reducible refine gA ?_|with_reducible refine gD ?_|((with_reducible first|refine gS ?_ (.inr ?_)|refine gBx ?_ (.inr ?_));rotate_left;(focus ((try simp);(try omega))))))⟩
            · skip
              go_simp
              refine hK.out _ _ trivial (fun _=>?_)
              clear hK
              (try simp only [Act.put,List.setIfInBounds_toArray,List.set_cons_zero,List.set_cons_succ])
              refine wpAnyH_take (i:=4) (oi:=⟨some 168,_,_,_,_,_⟩) (v:=?_) rfl (by kernel_rfl) (by kernel_rfl) (by kernel_rfl) (fun _ _ _ h=>h) (Or.inl ⟨by rfl,?_⟩) (by assumption) ?_;rotate_left;(focus (intro w' hSw;(try dsimp only at hSw);go_simp;(try with_reducible rfl)));(try rotate_left);(try simp only [Act.put,List.setIfInBounds_toArray,List.set_cons_zero,List.set_cons_succ])
              refine wpAnyH_take (i:=5) (oi:=⟨some 169,_,_,_,_,_⟩) (v:=?_) rfl (by kernel_rfl) (by kernel_rfl) (by kernel_rfl) (fun _ _ _ h=>h) (Or.inl ⟨by rfl,?_⟩) (by assumption) ?_;rotate_left;(focus (intro w' hSw;(try dsimp only at hSw);go_simp;(try with_reducible rfl)));(try rotate_left);(try simp only [Act.put,List.setIfInBounds_toArray,List.set_cons_zero,List.set_cons_succ])
              refine wpAnyH_take (i:=8) (oi:=⟨some 172,_,_,_,_,_⟩) (v:=?_) rfl (by kernel_rfl) (by kernel_rfl) (by kernel_rfl) (fun _ _ _ h=>h) (Or.inl ⟨by rfl,?_⟩) (by assumption) ?_;rotate_left;(focus (intro w' hSw;(try dsimp only at hSw);go_simp;(try with_reducible rfl)));(try rotate_left);(try simp only [Act.put,List.setIfInBounds_toArray,List.set_cons_zero,List.set_cons_succ])
              refine wpAnyH_ready (rs:=[1]) (by kernel_rfl) (by simp) ?_
              refine AllReadyH.cons (o:=⟨some 165,_,_,_,_,_⟩) rfl (fun K hK=>?_) AllReadyH.nil
              · skip
                go_simp
                refine hK.out _ _ trivial (fun _=>?_)
                clear hK
                (try simp only [Act.put,List.setIfInBounds_toArray,List.set_cons_zero,List.set_cons_succ])
                refine wpAnyH_ready (rs:=[9]) (by kernel_rfl) (by simp) ?_
                refine AllReadyH.cons (o:=⟨some 173,_,_,_,_,_⟩) rfl (fun K hK=>?_) AllReadyH.nil
                · skip
                  refine step_zeros _ (by rfl) _ _ _ _ (by rfl) (w.heap.size+2) 2 i0 _ .i64 1 8 Tryz.underlying25 Tryz.underlying2 hi0 hz0 hz1 hz2 rfl (by omega) (Value.slice a2 y.ch.words.length c2) _ _ (by rfl) G4 k (by rfl) hk0 (by rw [zeros_ints];exact ints_one _) (by unfold maxLen;omega) (by omega) (by omega) w23.heap.size rfl ?_
                  intro g8 q8 w8 o8 gr8 hat hlt8
                  refine hK.out _ _ trivial (fun _=>?_)
                  clear hK
                  (try simp only [Act.put,List.setIfInBounds_toArray,List.set_cons_zero,List.set_cons_succ])
                  have hdw8:DS w8 B g:=DS.grown hdw23 gr8 (fun i e=>by have:=(World.ownsRow.lt G4 i e).1;omega)
                  have hGw8:Gr g w w8:=Gr.grown hGw23 gr8 (fun i e=>by have:=(World.ownsRow.lt G4 i e).1;omega)
                  have G5:=World.ownsRow.kept G3 gr8 (.inr NEc)
                  have hsw8:=gr8.size;(try (simp at hsw8));have zz:=gQ gr8 (b:=w.heap.size) v_w;(first|(simp [go_sem,z_w,l_w] at zz)|(simp [go_sem] at zz));(try clear x_w f_w);(try clear z_w);have z_w:=zz;clear zz;(try clear l_w);obtain ⟨x_w,f_w,l_w⟩:=bO z_w;have zz:=gQ gr8 (b:=w.heap.size+1) v_wp;(first|(simp [go_sem,z_wp,l_wp] at zz)|(simp [go_sem] at zz));(try clear x_wp f_wp);(try clear z_wp);have z_wp:=zz;clear zz;(try clear l_wp);obtain ⟨x_wp,f_wp,l_wp⟩:=bO z_wp;have zz:=gQ gr8 (b:=w20.heap.size) v_w20;(first|(simp [go_sem,z_w20,l_w20] at zz)|(simp [go_sem] at zz));(try clear x_w20 f_w20);(try clear z_w20);have z_w20:=zz;clear zz;(try clear l_w20);obtain ⟨x_w20,f_w20,l_w20⟩:=bO z_w20;have zz:=gQ gr8 (b:=w20.heap.size+1) v_w20p;(first|(simp [go_sem,z_w20p,l_w20p] at zz)|(simp [go_sem] at zz));(try clear x_w20p f_w20p);(try clear z_w20p);have z_w20p:=zz;clear zz;(try clear l_w20p);obtain ⟨x_w20p,f_w20p,l_w20p⟩:=bO z_w20p
                  refine wpAnyH_take (i:=10) (oi:=⟨some 174,_,_,_,_,_⟩) (v:=?_) rfl (by kernel_rfl) (by kernel_rfl) (by kernel_rfl) (fun _ _ _ h=>h) (Or.inl ⟨by rfl,?_⟩) (by assumption) ?_;rotate_left;(focus (intro w' hSw;(try dsimp only at hSw);go_simp;(try with_reducible rfl)));(try rotate_left);(try simp only [Act.put,List.setIfInBounds_toArray,List.set_cons_zero,List.set_cons_succ])
                  refine wpAnyH_ready (rs:=[11]) (by kernel_rfl) (by simp) ?_
                  refine AllReadyH.cons (o:=⟨none,_,_,_,_,_⟩) rfl (fun K hK=>?_) AllReadyH.nil
                  · skip
                    go_simp
                    refine hK.out _ _ trivial (fun _=>?_)
                    clear hK
                    (try simp only [Act.put,List.setIfInBounds_toArray,List.set_cons_zero,List.set_cons_succ])
                    refine wpAnyH_done (by kernel_rfl) ?_ _
                    refine NoPanic.normal ?_
                    have o9:=OInts.zeros o8
                    have NG1:(Value.slice (some ⟨g8,0,none⟩) (y.ch.words.length+k) q8).ownBlock≠some (w20.heap.size+1):=fun e=>by
                      rcases hat with hat|hat
                      · exact N4 (by rw [hat];exact e)
                      · simp [Value.ownBlock] at e
                        omega
                    go_wp2_with fail
                    go_meet
                    exact ⟨{ y.ch with words:=y.ch.words ++ List.replicate k 0 },hh,.slice (some ⟨gc,0,none⟩) y.ch.cells.length c1,.slice (some ⟨g8,0,none⟩) (y.ch.words.length+k) q8,(by (repeat first|with_reducible exact G5|with_reducible refine oAl ?_ _|with_reducible refine oDr ?_|((with_reducible first|refine own_store ?_ ?_ _|refine own_box ?_ ?_);rotate_left;focus first|(refine own_ne G5 ?_;(try dsimp only);omega)|(refine own_ne' G5 ?_;(try dsimp only);omega)|exact N3))),(by (repeat first|with_reducible exact o9|with_reducible refine oAl ?_ _|with_reducible refine oDr ?_|((with_reducible first|refine own_store ?_ ?_ _|refine own_box ?_ ?_);rotate_left;focus first|(refine own_ne o9 ?_;(try dsimp only);omega)|(refine own_ne' o9 ?_;(try dsimp only);omega)|exact NG1))),(show y.ch.cells.length=40 by omega),(show (y.ch.words ++ List.replicate k 0).length≤80 by rw [List.length_append,List.length_replicate];omega),by simp [go_sem, *] <;> rfl,by simp [go_sem, *],by simp [go_sem, *],by simp [go_sem, *],by (repeat (first|with_reducible assumption|with_reducible refine DS.alloc ?_|with_reducible refine DS.drew ?_|((with_reducible first|refine DS.setCell ?_ ?_ ?_|refine DS.box ?_ ?_ ?_);rotate_left;(focus ((try simp);(try omega)));(focus ((try simp);(try omega)))))),by (repeat (first|with_reducible assumption|with_reducible exact gR _ _|with_reducible refine gA ?_|with_reducible refine gD ?_|((with_reducible first|refine gS ?_ (.inr ?_)|refine gBx ?_ (.inr ?_));rotate_left;(focus ((try simp);(try omega))))))⟩
        · go_wp2_with fail;refine (l1Below_any B g ((y.ch.words.length:Int)+2)  _ (by (repeat (first|with_reducible assumption|with_reducible refine DS.alloc ?_|with_reducible refine DS.drew ?_|((with_reducible refine DS.setCell ?_ ?_ ?_);rotate_left;(focus ((try simp);(try omega)));(focus ((try simp);(try omega)))))))  (by omega) (by omega)).mono ?_;rintro _ w23 ⟨⟨r,rfl,_,_⟩,hdw23,hgw23⟩;have hGw23:Gr g w w23:=gT (by (repeat (first|with_reducible assumption|with_reducible exact gR _ _|with_reducible refine gA ?_|with_reducible refine gD ?_|((with_reducible refine gS ?_ (.inr ?_));rotate_left;(focus ((try simp);(try omega))))))) hgw23;have hlw23:=hdw23.lt;have hsw23:=hgw23.size;(try (simp at hsw23))
          have hsw23:=hgw23.size;(try (simp at hsw23));have zz:=gQ hgw23 (b:=w.heap.size) m_w;(first|(simp [go_sem,z_w,l_w] at zz)|(simp [go_sem] at zz));(try clear x_w f_w);(try clear z_w);have z_w:=zz;clear zz;(try clear l_w);obtain ⟨x_w,f_w,l_w⟩:=bO z_w;have zz:=gQ hgw23 (b:=w.heap.size+1) m_wp;(first|(simp [go_sem,z_wp,l_wp] at zz)|(simp [go_sem] at zz));(try clear x_wp f_wp);(try clear z_wp);have z_wp:=zz;clear zz;(try clear l_wp);obtain ⟨x_wp,f_wp,l_wp⟩:=bO z_wp;have zz:=gQ hgw23 (b:=w20.heap.size) m_w20;(first|(simp [go_sem,z_w20,l_w20] at zz)|(simp [go_sem] at zz));(try clear x_w20 f_w20);(try clear z_w20);have z_w20:=zz;clear zz;(try clear l_w20);obtain ⟨x_w20,f_w20,l_w20⟩:=bO z_w20;have zz:=gQ hgw23 (b:=w20.heap.size+1) m_w20p;(first|(simp [go_sem,z_w20p,l_w20p] at zz)|(simp [go_sem] at zz));(try clear x_w20p f_w20p);(try clear z_w20p);have z_w20p:=zz;clear zz;(try clear l_w20p);obtain ⟨x_w20p,f_w20p,l_w20p⟩:=bO z_w20p
          replace G1:=G1.kept hgw23 (.inr (own_ne G1 (by omega)))
          replace G2:=G2.kept hgw23 (.inr (own_ne G2 (by omega)))
          go_wp2_with fail
          go_meet
          exact ⟨y.ch,{ hh with mine:=r },Value.slice a1 y.ch.cells.length c1,Value.slice a2 y.ch.words.length c2,(by (repeat first|with_reducible exact G1|with_reducible refine oAl ?_ _|with_reducible refine oDr ?_|((with_reducible first|refine own_store ?_ ?_ _|refine own_box ?_ ?_);rotate_left;focus first|(refine own_ne G1 ?_;(try dsimp only);omega)|(refine own_ne' G1 ?_;(try dsimp only);omega)|exact N1|exact N3))),(by (repeat first|with_reducible exact G2|with_reducible refine oAl ?_ _|with_reducible refine oDr ?_|((with_reducible first|refine own_store ?_ ?_ _|refine own_box ?_ ?_);rotate_left;focus first|(refine own_ne G2 ?_;(try dsimp only);omega)|(refine own_ne' G2 ?_;(try dsimp only);omega)|exact N2|exact N4))),by omega,by omega,by simp [go_sem, *] <;> rfl,by simp [go_sem, *] <;> rfl,by simp [go_sem, *],by simp [go_sem, *],by (repeat (first|with_reducible assumption|with_reducible refine DS.alloc ?_|with_reducible refine DS.drew ?_|((with_reducible first|refine DS.setCell ?_ ?_ ?_|refine DS.box ?_ ?_ ?_);rotate_left;(focus ((try simp);(try omega)));(focus ((try simp);(try omega)))))),by (repeat (first|with_reducible assumption|with_reducible exact gR _ _|with_reducible refine gA ?_|with_reducible refine gD ?_|((with_reducible first|refine gS ?_ (.inr ?_)|refine gBx ?_ (.inr ?_));rotate_left;(focus ((try simp);(try omega))))))⟩
    case rest =>
      clear N1 N2 N3 N4 z_w x_w f_w l_w z_wp x_wp f_wp l_wp G1 G2
      (try clear z_w20 x_w20 f_w20 l_w20 z_w20p x_w20p f_w20p l_w20p)
      obtain ⟨C,HH,v1,v2,O1,O2,hL1,hL2,z_c,z_h,z_w,z_wp,hd,hG⟩:=hcut
      obtain ⟨w24,hw⟩:∃ x,x=wc:=⟨_,rfl⟩
      rw [← hw] at O1 O2 z_c z_h z_w z_wp hd hG ⊢
      clear hw
      obtain ⟨e1,p1,rfl,_⟩:=O1.seg
      obtain ⟨e2,p2,rfl,_⟩:=O2.seg
      have l_c:=(bO z_c).2.2
      have l_h:=(bO z_h).2.2
      have l_w:=(bO z_w).2.2
      have l_wp:=(bO z_wp).2.2
      have hL3:C.cells.length≤40:=Nat.le_of_eq hL1
      have HL:=Lib.hid hL1
      clear hL1
      go_wp2_with fail
      go_region_held3 (fun w'=>hp w' (w20.heap.size+1)=some (.cells (cvals C (.slice e1 C.cells.length p1) (.slice e2 C.words.length p2)) 27)∧hp w' w20.heap.size=some (.cells (hvals HH) 31))
        (first|(simp [*,go_sem]))
        (first|fail)
      go_wp2
      refine bodyPost_ret (v:=.tuple #[.agg (cvals C (.slice e1 C.cells.length p1) (.slice e2 C.words.length p2)),.agg (hvals HH)]) (res_cc Tryz.results20 rfl (ldChan C _ _ (by simp [go_sem, *] <;> rfl)) rfl (ldHand HH (by simp [go_sem, *] <;> rfl))) rfl ⟨⟨C,HH,_,_,rfl,own_lo (lo:=w.heap.size+2) (by exact zO O1 O1) (by omega),own_lo (lo:=w.heap.size+2) (by exact zO O2 O2) (by omega),HL.out,hL2⟩,by (repeat (first|with_reducible assumption|with_reducible refine DS.alloc ?_|with_reducible refine DS.drew ?_|((with_reducible first|refine DS.setCell ?_ ?_ ?_|refine DS.box ?_ ?_ ?_);rotate_left;(focus ((try simp);(try omega)));(focus ((try simp);(try omega)))))),by (repeat (first|with_reducible assumption|with_reducible exact gR _ _|with_reducible refine gA ?_|with_reducible refine gD ?_|((with_reducible first|refine gS ?_ (.inr ?_)|refine gBx ?_ (.inr ?_));rotate_left;(focus ((try simp);(try omega))))))⟩
theorem l6Draw_any (B g:Nat) (f t code:Int) (w:World) (hd:DS w B g) (hf:0≤f) (hft:f≤t) (ht:t≤25) (hcode:code=0∨code=1∨code=2) :
    Calls Tryz.prog 20 #[.pointer (some ⟨g,0,none⟩),.int .i64 f,.int .i64 t,.int .i64 code] w fun r w'=>StepD w' w.heap.size r∧DS w' B g∧Gr g w w' :=
  (l6DrawA B g f t code w).2 ⟨⟨l6DrawB B g f t code w⟩⟩ hd hf hft ht hcode
set_option maxRecDepth 100000 in
set_option maxHeartbeats 1000000 in
theorem drawSendStep_any (n cap:Nat) (a:Option Addr) (bs:Nat→Int) (w:World) (h:Code w w.heap.size a n bs) :
    Calls Tryz.prog 6 #[.slice a n cap] w fun r w'=>StepD w' w.heap.size r∧Below w.heap.size w w':=by
  go_enter Tryz.func6,Tryz.ntmps6
  go_wp2_with fail;refine (new_any w.heap.size _ _ _ bs _ (h.below (by exact zB)) (by ((try simp);(try omega)))).mono ?_;rintro _ w1 ⟨g,rfl,hdw1,hgle,hbw1⟩;have hBw1:Below w.heap.size w w1:=bT (by exact zB) hbw1;have hlw1:=hdw1.lt;have hsw1:=hbw1.size;(try (simp at hsw1));(try (simp at hgle));have:=fun o=>hbw1.cell (p:=⟨w.heap.size,o,none⟩) (by ((try simp);(try omega)));have:=fun o=>hbw1.frozen (p:=⟨w.heap.size,o,none⟩) (by ((try simp);(try omega)));have:=fun o=>hbw1.cell (p:=⟨w.heap.size+1,o,none⟩) (by ((try simp);(try omega)));have:=fun o=>hbw1.frozen (p:=⟨w.heap.size+1,o,none⟩) (by ((try simp);(try omega)));have:w.heap.size<w1.heap.size:=(by omega);have:w.heap.size≤w1.heap.size:=(by omega);have:w.heap.size≤w1.heap.size+1:=(by omega);have:w.heap.size+1<w1.heap.size:=(by omega);have:w.heap.size+1≤w1.heap.size:=(by omega);have:w.heap.size+1≤w1.heap.size+1:=(by omega)
  have hsw1:=hbw1.size;(try (simp at hsw1));have zz:=hQ hbw1 (b:=w.heap.size);(first|(simp [go_sem,z_w,l_w] at zz)|(simp [go_sem] at zz));(try clear x_w f_w);(try clear z_w);have z_w:=zz;clear zz;(try clear l_w);obtain ⟨x_w,f_w,l_w⟩:=bO z_w;have zz:=hQ hbw1 (b:=w.heap.size+1);(first|(simp [go_sem,z_wp,l_wp] at zz)|(simp [go_sem] at zz));(try clear x_wp f_wp);(try clear z_wp);have z_wp:=zz;clear zz;(try clear l_wp);obtain ⟨x_wp,f_wp,l_wp⟩:=bO z_wp
  have m_w:some w.heap.size≠some g:=by simp;omega
  have m_wp:some (w.heap.size+1)≠some g:=by simp;omega
  have k_w:w.heap.size<w1.heap.size:=by omega
  have k_wp:w.heap.size+1<w1.heap.size:=by omega
  go_wp2_with fail
  refine (l6Draw_any w.heap.size g 1 8 1 _ (by (repeat (first|with_reducible assumption|with_reducible refine DS.alloc ?_|with_reducible refine DS.drew ?_|((with_reducible refine DS.setCell ?_ ?_ ?_);rotate_left;(focus ((try simp);(try omega)));(focus ((try simp);(try omega))))))) (by omega) (by omega) (by omega) (by omega)).mono ?_
  rintro _ w2 ⟨⟨c,hh,v1,v2,rfl,o1,o2,hl1,hl2⟩,hdw2,hgw2⟩
  have hBw2:Below w.heap.size w w2:=bG (by exact zB) hgw2 (by omega)
  have hsw2:=hgw2.size;(try (simp at hsw2));have zz:=gQ hgw2 (b:=w.heap.size) m_w;(first|(simp [go_sem,z_w,l_w] at zz)|(simp [go_sem] at zz));(try clear x_w f_w);(try clear z_w);have z_w:=zz;clear zz;(try clear l_w);obtain ⟨x_w,f_w,l_w⟩:=bO z_w;have zz:=gQ hgw2 (b:=w.heap.size+1) m_wp;(first|(simp [go_sem,z_wp,l_wp] at zz)|(simp [go_sem] at zz));(try clear x_wp f_wp);(try clear z_wp);have z_wp:=zz;clear zz;(try clear l_wp);obtain ⟨x_wp,f_wp,l_wp⟩:=bO z_wp
  obtain ⟨e1,p1,rfl,_⟩:=o1.seg
  obtain ⟨e2,p2,rfl,_⟩:=o2.seg
  go_wp2
  refine bodyPost_ret (v:=.tuple #[.agg (cvals c (.slice e1 c.cells.length p1) (.slice e2 c.words.length p2)),.agg (hvals hh)]) (res_cc Tryz.results6 rfl (ldChan c _ _ (by simp [go_sem, *] <;> rfl)) rfl (ldHand hh (by simp [go_sem, *] <;> rfl))) rfl ⟨⟨c,hh,_,_,rfl,own_lo (lo:=w1.heap.size) (by exact zO o1 o1) (by omega),own_lo (lo:=w1.heap.size) (by exact zO o2 o2) (by omega),hl1,hl2⟩,by exact zB⟩
end Go.Proofs.YtkiingmgpobgnaaGreat
