/-
  Steps of one alone, of the reference model; lists lie in memory and hold at most 2 ^ 40 elements.
  The draws of chapter 1: a cursor over at most 4096 bytes is made; what is drawn of it are some cells and some numbers.
  The draws of calls: right ones, and any; only the cursor turns; the drawn bytes are at most 4096.
  A waiter's word is had with a cell that was free and is not so any more: there are never more words than cells that are not free; on plain numbers and lists; no condition.
  The draw of a world in which some things have happened: a right one, of at most 37 words; only the cursor turns; the drawn bytes are at most 4096.
  The draws of hands: out of a drawn world, with one part changed at times; only the cursor turns; the drawn bytes are at most 4096.
  What is appended as a number of zeros, and where the new slice lies; the lists are short enough for a machine.
-/
import Derived.Test.YtkiingmgpobgnaaGreatQ08
import Derived.Test.YtkiingmgpobgnaaGreatQ01
import Derived.Deep.DeepCutAuto
import Derived.Deep.AppendLies
import Derived.Lib.AppendZeros
set_option linter.unusedSimpArgs false
set_option linter.unusedVariables false
namespace Go.Proofs.YtkiingmgpobgnaaGreat
open Go.RowKit
set_option linter.unusedSimpArgs false
attribute [local simp] bx_size
attribute [local go_sem ↓] zeroHand toLHand toVHand toSHand storeHandC
attribute [local go_sem] runSHand
theorem own_opens {w:World} {lo:Nat} {t:TypeId} {n k:Nat} {v:Value} {xs:List Value} {f:Nat→Nat→Value} (h:w.ownsRow lo t k v n xs) (hf:∀ i j,i<n→j<k→xs[i*k+j]?=some (f i j)):∃ (a:Option Addr) (cap:Nat),v=.slice a n cap∧Seg w w.heap.size a n k f∧(a=none→n=0∧cap=0):=by
  obtain ⟨a,cap,rfl,hs⟩:=own_seg h hf
  refine ⟨a,cap,rfl,hs,fun e=>?_⟩
  subst e
  rcases h.2 with ⟨e,h0⟩|⟨g,cap,cur,e,_⟩
  · simp at e;exact ⟨h0,e.2⟩
  · simp at e
/-- The lists of a world of the call's own, opened. -/
theorem WOwn.opens {w:World} {lo:Nat} {v1 v2 v3 v4:Value} {y:Wo} (h:WOwn w lo v1 v2 v3 v4 y):∃ (a b d e:Option Addr) (p q r s:Nat),v1=.slice a y.ch.cells.length p∧v2=.slice b y.ch.words.length q∧v3=.slice d y.hands.length r∧v4=.slice e y.deals.length s∧Seg w w.heap.size a y.ch.cells.length 3 (cellF y.ch.cells)∧(a=none→p=0)∧Seg w w.heap.size b y.ch.words.length 1 (intF y.ch.words)∧(b=none→q=0)∧Seg w w.heap.size d y.hands.length 14 (handF y.hands)∧(d=none→y.hands.length=0∧r=0)∧Seg w w.heap.size e y.deals.length 7 (dealF y.deals)∧(e=none→y.deals.length=0∧s=0):=by
  obtain ⟨h1,h2,h3,h4⟩:=h
  obtain ⟨a,p,e1,s1,z1⟩:=own_opens h1 fun i j hi hj=>flatC_get y.ch.cells i j hi hj
  obtain ⟨b,q,e2,s2,z2⟩:=own_opens (f:=intF y.ch.words) h2 fun i j hi hj=>by
    have:j=0:=by omega
    subst this
    simp [ints,intF,List.getD,hi]
  obtain ⟨d,r,e3,s3,z3⟩:=own_opens h3 fun i j hi hj=>flatH_get y.hands i j hi hj
  obtain ⟨e,s,e4,s4,z4⟩:=own_opens h4 fun i j hi hj=>flatD_get y.deals i j hi hj
  exact ⟨a,b,d,e,p,q,r,s,e1,e2,e3,e4,s1,fun h=>(z1 h).2,s2,fun h=>(z2 h).2,s3,z3,s4,z4⟩
theorem WOwn.lo {w:World} {lo lo':Nat} {v1 v2 v3 v4:Value} {y:Wo} (h:WOwn w lo v1 v2 v3 v4 y) (hl:lo'≤lo):WOwn w lo' v1 v2 v3 v4 y:=⟨own_lo h.1 hl,own_lo h.2.1 hl,own_lo h.2.2.1 hl,own_lo h.2.2.2 hl⟩
theorem WOwn.below {w w':World} {lo:Nat} {v1 v2 v3 v4:Value} {y:Wo} (h:WOwn w lo v1 v2 v3 v4 y) (hb:Below w.heap.size w w'):WOwn w' lo v1 v2 v3 v4 y:=⟨own_below h.1 hb,own_below h.2.1 hb,own_below h.2.2.1 hb,own_below h.2.2.2 hb⟩
/-- None of the lists lies in block b. -/
def WOff (b:Nat) (v1 v2 v3 v4:Value):Prop:=v1.ownBlock≠some b∧v2.ownBlock≠some b∧v3.ownBlock≠some b∧v4.ownBlock≠some b
theorem WOwn.store {w:World} {lo:Nat} {v1 v2 v3 v4:Value} {y:Wo} (h:WOwn w lo v1 v2 v3 v4 y) {p:Addr} (hp:WOff p.block v1 v2 v3 v4) (u:Value):WOwn (w.setCell p u) lo v1 v2 v3 v4 y:=⟨own_store h.1 hp.1 u,own_store h.2.1 hp.2.1 u,own_store h.2.2.1 hp.2.2.1 u,own_store h.2.2.2 hp.2.2.2 u⟩
theorem WOwn.alloc {w:World} {lo:Nat} {v1 v2 v3 v4:Value} {y:Wo} (h:WOwn w lo v1 v2 v3 v4 y) (o:Obj):WOwn (w.alloc o) lo v1 v2 v3 v4 y:=⟨World.ownsRow.alloc h.1 o,World.ownsRow.alloc h.2.1 o,World.ownsRow.alloc h.2.2.1 o,World.ownsRow.alloc h.2.2.2 o⟩
theorem WOwn.drew {w:World} {lo:Nat} {v1 v2 v3 v4:Value} {y:Wo} (h:WOwn w lo v1 v2 v3 v4 y):WOwn w.drew lo v1 v2 v3 v4 y:=h
theorem WOwn.ne {w:World} {lo b:Nat} {v1 v2 v3 v4:Value} {y:Wo} (h:WOwn w lo v1 v2 v3 v4 y) (hb:b<lo):WOff b v1 v2 v3 v4:=⟨own_ne h.1 hb,own_ne h.2.1 hb,own_ne h.2.2.1 hb,own_ne h.2.2.2 hb⟩
theorem WOwn.ne' {w:World} {lo b:Nat} {v1 v2 v3 v4:Value} {y:Wo} (h:WOwn w lo v1 v2 v3 v4 y) (hb:w.heap.size≤b):WOff b v1 v2 v3 v4:=⟨own_ne' h.1 hb,own_ne' h.2.1 hb,own_ne' h.2.2.1 hb,own_ne' h.2.2.2 hb⟩
theorem right_len {y:Wo} (h:RightW y):y.ch.cells.length≤1099511627776∧y.ch.words.length≤1099511627776∧y.hands.length≤1099511627776∧y.deals.length≤1099511627776:=by
  have:=chan_parts h.ch;have:=h.h6;have:=h.d
  omega
theorem alone_next {n:Nat} {y:Wo} {who:Int} (hp:(handAt y who).pos≠0) (hs:(step11 y who).2=true):aloneN (n+1) y who=((aloneN n (step11 y who).1 who).1,(aloneN n (step11 y who).1 who).2+1):=by
  simp [aloneN,hp,hs]
theorem alone_stuck {n:Nat} {y:Wo} {who:Int} (hs:(step11 y who).2=false):aloneN n y who=(y,0):=by
  cases n with
  | zero=>rfl
  | succ n=>simp [aloneN,hs]
set_option maxRecDepth 100000 in
set_option maxHeartbeats 4000000 in
theorem alone_yes (x:Wo) (who most:Int) (a b d e:Option Addr) (p q r s:Nat) (w:World) (h1:Seg w w.heap.size a x.ch.cells.length 3 (cellF x.ch.cells)) (z1:a=none→p=0) (h2:Seg w w.heap.size b x.ch.words.length 1 (intF x.ch.words)) (z2:b=none→q=0) (h3:Seg w w.heap.size d x.hands.length 14 (handF x.hands)) (z3:d=none→x.hands.length=0∧r=0) (h4:Seg w w.heap.size e x.deals.length 7 (dealF x.deals)) (z4:e=none→x.deals.length=0∧s=0) (m1:x.ch.cells.length≤1099511627776) (m2:x.ch.words.length≤1099511627776) (m3:x.hands.length≤1099511627776) (m4:x.deals.length≤1099511627776) (hk:worldOk x=true) (ht:taskOk x who=true) (hm0:0≤most) (hm1:most≤20000) :
    Calls Tryz.prog 79 #[.agg #[.int .i64 x.ch.cap,.int .i64 x.ch.sent,.int .i64 x.ch.got,.int .i64 x.ch.fin,.slice a x.ch.cells.length p,.slice b x.ch.words.length q,.slice d x.hands.length r,.slice e x.deals.length s,.int .i64 x.now],.int .i64 who,.int .i64 most] w fun r w'=>WordR w w' (alone x who most).1 (.int .i64 (alone x who most).2) r:=by
  have H1:=Lib.hid h1
  have H2:=Lib.hid h2
  have H3:=Lib.hid h3
  have H4:=Lib.hid h4
  have Z1:=Lib.hid z1
  have Z2:=Lib.hid z2
  have Z3:=Lib.hid z3
  have Z4:=Lib.hid z4
  clear h1 h2 h3 h4 z1 z2 z3 z4
  obtain ⟨i,rfl⟩:∃ i:Nat,who=(i:Int):=⟨who.toNat,by simp [taskOk,taskB,inB] at ht;omega⟩
  have hi:i<x.hands.length:=by simp [taskOk,taskB,inB] at ht;omega
  obtain ⟨b3,o3,rfl,hb3,hc3⟩:∃ b o,d=some ⟨b,o,none⟩∧b<w.heap.size∧Hid (∀ i j,i<x.hands.length→j<14→w.cell? ⟨b,o+i*14+j,none⟩=some (handF x.hands i j)):=by
    rcases H3.out with h0|h0
    · omega
    · exact h0
  have hLd:∀ W:World,hp W b3=hp w b3→(LHand (.pointer (some ⟨b3,o3+i*14,none⟩))).run Tryz.prog W=.ok (.agg (hvals (handAt x i))) W:=fun W e=>ldHandE _ fun j hj=>by rw [show (hvals (handAt x i)).getD j (.int .i64 0)=handF x.hands i j by simp [handF,handAt],← hc3.out i j hi hj];exact World.cell?_of_block e
  have hi0:(0:Int)≤(i:Int):=by omega
  have hi1:(i:Int)<(x.hands.length:Int):=by omega
  have e0:alone x i most=((aloneN most.toNat x i).1,((aloneN most.toNat x i).2:Int)):=by simp [alone,hk,ht,inB_yes hm0 hm1]
  rw [e0]
  have ht2:taskB x.hands.length i=true:=ht
  have hn2:inB most 0 20000=true:=inB_yes hm0 hm1
  clear e0
  go_enter Tryz.func79,Tryz.ntmps79
  go_wp2_with fail;refine bHit w (by exact zB) fun bb=>?_;refine (sWorldOk_any x a b _ e p q r s _ ((H1.out.below bb).more bb.size) ((H2.out.below bb).more bb.size) ((H3.out.below bb).more bb.size) ((H4.out.below bb).more bb.size) m3 m4).mono ?_;rintro _ w1 ⟨rfl,hbw1⟩;have hCw1:Below w.heap.size w w1:=bT bb hbw1;have hsw1:=hbw1.size;(try simp at hsw1);have zz:=And.intro (hQ hbw1 (b:=w.heap.size+1)) <| hQ hbw1 (b:=w.heap.size);(try simp [go_sem] at zz);(try clear z_wp x_wp f_wp l_wp);(try clear z_w x_w f_w l_w);obtain ⟨z_wp,z_w⟩:=zz;obtain ⟨x_wp,f_wp,l_wp⟩:=bO z_wp;obtain ⟨x_w,f_w,l_w⟩:=bO z_w;clear hbw1 bb
  rw [hk]
  go_wp2_with fail;refine bHit w (by exact zB) fun bb=>?_;refine (l11Task_any x.ch x.hands.length x.now i _ _ _ _ _ _ _ _ _ _ _ m3 _).mono ?_;rintro _ w2 ⟨rfl,hbw2⟩;have hCw2:Below w.heap.size w w2:=bT bb hbw2;have hsw2:=hbw2.size;(try simp at hsw2);have zz:=And.intro (hQ hbw2 (b:=w.heap.size+1)) <| hQ hbw2 (b:=w.heap.size);(first|simp [go_sem,z_wp,z_w,l_w,l_wp] at zz|simp [go_sem] at zz|skip);(try clear z_wp x_wp f_wp l_wp);(try clear z_w x_w f_w l_w);obtain ⟨z_wp,z_w⟩:=zz;obtain ⟨x_wp,f_wp,l_wp⟩:=bO z_wp;obtain ⟨x_w,f_w,l_w⟩:=bO z_w;clear hbw2 bb
  rw [ht2]
  go_wp2_with fail;refine bHit w (by exact zB) fun bb=>?_;refine (l11Copy_any x a b _ e p q r s _ ((H1.out.below bb).more bb.size) Z1.out ((H2.out.below bb).more bb.size) Z2.out ((H3.out.below bb).more bb.size) Z3.out ((H4.out.below bb).more bb.size) Z4.out m1 m2 m3 m4).mono ?_;rintro _ w3 ⟨⟨v1,v2,v3,v4,rfl,o1,o2,o3x,o4⟩,hbw3⟩;have hCw3:Below w.heap.size w w3:=bT bb hbw3;have hsw3:=hbw3.size;(try simp at hsw3);have zz:=And.intro (hQ hbw3 (b:=w.heap.size+1)) <| hQ hbw3 (b:=w.heap.size);(first|simp [go_sem,z_wp,z_w,l_w,l_wp] at zz|simp [go_sem] at zz|skip);(try clear z_wp x_wp f_wp l_wp);(try clear z_w x_w f_w l_w);obtain ⟨z_wp,z_w⟩:=zz;obtain ⟨x_wp,f_wp,l_wp⟩:=bO z_wp;obtain ⟨x_w,f_w,l_w⟩:=bO z_w;clear hbw3 bb
  try simp at o1 o2 o3x o4
  have O1:=Lib.hid o1
  have O2:=Lib.hid o2
  have O3:=Lib.hid o3x
  have O4:=Lib.hid o4
  obtain ⟨va,vc,rfl,_⟩:=OCells.seg o1
  obtain ⟨vb,vd,rfl,_⟩:=OInts.seg o2
  obtain ⟨vf,vg,rfl,_⟩:=OHands.seg o3x
  obtain ⟨vh,vi,rfl,_⟩:=ODeals.seg o4
  clear o1 o2 o3x o4
  have z3:hp w3 b3=hp w b3:=hCw3.block b3 hb3
  have lb3:b3<w3.heap.size:=by omega
  have nb3:b3≠w3.heap.size:=by omega
  have hr:=(rightW_iff x).1 hk
  go_wp2_with (go_at_call 107;refine (l11Now_any _ _).mono ?_;rintro _ _ ⟨rfl,rfl⟩)
  have hOW:WOwn w3 (w.heap.size+1+1) (.slice va x.ch.cells.length vc) (.slice vb x.ch.words.length vd) (.slice vf x.hands.length vg) (.slice vh x.deals.length vi) x:=WOwn.lo (lo:=w2.heap.size) ⟨O1.out,O2.out,O3.out,O4.out⟩ (by omega)
  clear O1 O2 O3 O4
  go_loopw [9] (fun n wr=>∃ (k:Nat) (y:Wo) (v1 v2 v3 v4:Value),k≤most.toNat∧n=.int .i64 k∧RightW y∧y.hands.length=x.hands.length∧aloneN most.toNat x i=((aloneN (most.toNat - k) y i).1,(aloneN (most.toNat - k) y i).2+k)∧WOwn wr (w.heap.size+1+1) v1 v2 v3 v4 y∧WOff w3.heap.size v1 v2 v3 v4∧hp wr w3.heap.size=some (.cells #[.int .i64 y.ch.cap,.int .i64 y.ch.sent,.int .i64 y.ch.got,.int .i64 y.ch.fin,v1,v2,v3,v4,.int .i64 y.now] 74)∧hp wr (w.heap.size+1)=some (.cells #[.int .i64 0,.int .i64 0,.int .i64 0,.int .i64 0,.slice none 0 0,.slice none 0 0,.slice none 0 0,.slice none 0 0,.int .i64 0] 74)∧w3.heap.size+1≤wr.heap.size∧Below w.heap.size w wr) (fun n _=>most.toNat - (intOf n).toNat)
  case atStart =>
    refine ⟨0,x,_,_,_,_,Nat.zero_le _,rfl,hr,rfl,by simp,WOwn.alloc hOW _,hOW.ne' (Nat.le_refl _),heap_alloc_new w3 _,?_,by simp,by exact zB⟩
    simp [go_sem, *]
  case round =>
    obtain ⟨k,y,v1,v2,v3,v4,hkm,rfl,hy,hyl,hal,hown,hoff,z_w3,z_wp,hsz,hB⟩:=hrel
    obtain ⟨y1,y2,y3,y4⟩:=right_len hy
    have l_w:w.heap.size<wr.heap.size:=by omega
    have l_wp:w.heap.size+1<wr.heap.size:=by omega
    have l_w3:w3.heap.size<wr.heap.size:=by omega
    have x_wp:∀ o,wr.cell? ⟨w.heap.size+1,o,none⟩=_:=fun o=>cell_of_row wr (w.heap.size+1) o _ _ _ z_wp
    have f_wp:∀ o,wr.frozen? ⟨w.heap.size+1,o,none⟩=false:=heap_frozen z_wp
    have f_w3:∀ o,wr.frozen? ⟨w3.heap.size,o,none⟩=false:=heap_frozen z_w3
    have OW:=Lib.hid hown
    obtain ⟨a1,a2,a3,a4,c1,c2,c3,c4,rfl,rfl,rfl,rfl,s1,t1,s2,t2,s3,t3,s4,t4⟩:=hown.opens
    have x_w3:∀ o,wr.cell? ⟨w3.heap.size,o,none⟩=_:=fun o=>cell_of_row wr w3.heap.size o _ _ _ z_w3
    have OF:=Lib.hid hoff
    have hi2:i<y.hands.length:=by omega
    obtain ⟨g,gq,eg,_,lg,hgc,_⟩:=OHands.open1 hown.2.2.1 hi2
    simp at eg
    obtain ⟨rfl,rfl⟩:=eg
    have cpos:wr.cell? ⟨g,i*14,none⟩=some (.int .i64 (handAt y i).pos):=(hgc 0 (by omega)).trans (by simp [handAt,hvals,Array.getD])
    have hi1':(i:Int)<(y.hands.length:Int):=by omega
    have AL:=Lib.hid hal
    clear hal hown hoff hgc
    have S1:=Lib.hid s1
    have S2:=Lib.hid s2
    have S3:=Lib.hid s3
    have S4:=Lib.hid s4
    clear s1 s2 s3 s4
    have HL:=Lib.hid hyl
    clear hyl
    have N1:=OW.out.ne (b:=w.heap.size+1) (by omega)
    have OL:=OW.out.lo (lo':=w.heap.size) (by omega)
    by_cases hlt:k<most.toNat
    · have hk1:(k:Int)<most:=by omega
      by_cases hp0:(handAt y i).pos=0
      · have ea:aloneN most.toNat x i=(y,k):=by rw [AL.out,alone_rest hp0];simp
        go_wp2
        (try rw [ea])
        refine bodyPost_ret (v:=.tuple #[.agg #[.int .i64 y.ch.cap,.int .i64 y.ch.sent,.int .i64 y.ch.got,.int .i64 y.ch.fin,.slice a1 y.ch.cells.length c1,.slice a2 y.ch.words.length c2,.slice (some ⟨g,0,none⟩) y.hands.length c3,.slice a4 y.deals.length c4,.int .i64 y.now],.int .i64 k]) (by simp [results,Tryz.results79,go_sem, *]) rfl ⟨⟨_,_,_,_,rfl,?_⟩,by exact zB⟩
        (repeat (first|with_reducible assumption|with_reducible refine WOwn.alloc ?_ _|with_reducible refine WOwn.drew ?_|((with_reducible refine WOwn.store ?_ ?_ _);rotate_left;(focus (first|exact N1))) ))
      · have hY:=l11Step_any y i a1 a2 (some ⟨g,0,none⟩) a4 c1 c2 c3 c4 wr S1.out t1 S2.out t2 S3.out t3 S4.out t4 y1 y2 y3 y4 (by unfold taskOk;rw [HL.out];exact ht2) ⟨hy.n0,hy.n1⟩
        cases hs:(step11 y i).2 with
        | false =>
          rw [hs] at hY
          have ea:aloneN most.toNat x i=(y,k):=by rw [AL.out,alone_stuck hs];simp
          have EA:=Lib.hid ea
          clear ea hs
          go_wp2_with fail;refine bHit w (by exact zB) fun bb=>?_;refine bHit wr (by exact zB) fun bk=>?_;refine (hY).mono ?_;rintro _ w5 ⟨⟨u1,u2,u3,u4,rfl,uo⟩,hbw5⟩;have hCw5:Below w.heap.size w w5:=bT bb hbw5;have hsw5:=hbw5.size;(try simp at hsw5);have zz:=And.intro (hQ hbw5 (b:=w3.heap.size)) <| hQ hbw5 (b:=w.heap.size+1);(first|simp [go_sem,z_w3,z_wp,l_w,l_w3,l_wp] at zz|simp [go_sem] at zz|skip);(try clear z_w3 x_w3 f_w3 l_w3);(try clear z_wp x_wp f_wp l_wp);obtain ⟨z_w3,z_wp⟩:=zz;obtain ⟨x_w3,f_w3,l_w3⟩:=bO z_w3;obtain ⟨x_wp,f_wp,l_wp⟩:=bO z_wp;have hKw5:Below wr.heap.size wr w5:=bT bk hbw5;clear hbw5 bb bk
          have OL5:=OL.below hKw5
          obtain ⟨b1,b2,b3',b4,d1,d2,d3,d4,rfl,rfl,rfl,rfl,_⟩:=uo.opens
          go_wp2
          rw [EA.out]
          refine bodyPost_ret (v:=.tuple #[.agg #[.int .i64 y.ch.cap,.int .i64 y.ch.sent,.int .i64 y.ch.got,.int .i64 y.ch.fin,.slice a1 y.ch.cells.length c1,.slice a2 y.ch.words.length c2,.slice (some ⟨g,0,none⟩) y.hands.length c3,.slice a4 y.deals.length c4,.int .i64 y.now],.int .i64 k]) (by simp [results,Tryz.results79,go_sem, *]) rfl ⟨⟨_,_,_,_,rfl,?_⟩,by exact zB⟩
          (repeat (first|with_reducible assumption|with_reducible refine WOwn.alloc ?_ _|with_reducible refine WOwn.drew ?_|((with_reducible refine WOwn.store ?_ ?_ _);rotate_left;(focus (first|exact N1))) ))
        | true =>
          obtain ⟨r1,r2,_,_,_⟩:=step_right hy (by unfold taskOk;rw [HL.out];exact ht2) hs
          rw [hs] at hY
          obtain ⟨m,hm⟩:∃ m,most.toNat - k=m+1:=⟨most.toNat - k - 1,by omega⟩
          have hm2:most.toNat - (k+1)=m:=by omega
          have ea:aloneN most.toNat x i=((aloneN (most.toNat - (k+1)) (step11 y i).1 i).1,(aloneN (most.toNat - (k+1)) (step11 y i).1 i).2+(k+1)):=by
            rw [AL.out,hm,hm2,alone_next hp0 hs]
            simp
            omega
          have EA:=Lib.hid ea
          have R2:=Lib.hid (r2.trans HL.out)
          generalize (step11 y i).1=y' at *
          clear ea hs hm hm2 r2
          go_wp2_with fail;refine bHit w (by exact zB) fun bb=>?_;refine bHit wr (by exact zB) fun bk=>?_;refine (hY).mono ?_;rintro _ w5 ⟨⟨u1,u2,u3,u4,rfl,uo⟩,hbw5⟩;have hCw5:Below w.heap.size w w5:=bT bb hbw5;have hsw5:=hbw5.size;(try simp at hsw5);have zz:=And.intro (hQ hbw5 (b:=w3.heap.size)) <| hQ hbw5 (b:=w.heap.size+1);(first|simp [go_sem,z_w3,z_wp,l_w,l_w3,l_wp] at zz|simp [go_sem] at zz|skip);(try clear z_w3 x_w3 f_w3 l_w3);(try clear z_wp x_wp f_wp l_wp);obtain ⟨z_w3,z_wp⟩:=zz;obtain ⟨x_w3,f_w3,l_w3⟩:=bO z_w3;obtain ⟨x_wp,f_wp,l_wp⟩:=bO z_wp;have hKw5:Below wr.heap.size wr w5:=bT bk hbw5;clear hbw5 bb bk
          have UO:=Lib.hid uo
          obtain ⟨b1,b2,b3',b4,d1,d2,d3,d4,rfl,rfl,rfl,rfl,_⟩:=uo.opens
          have nu3:=UO.out.ne (b:=w3.heap.size) (by omega)
          have nu5:=UO.out.ne' (b:=w5.heap.size) (by omega)
          have UL:=UO.out.lo (lo':=w.heap.size+1+1) (by omega)
          go_wp2
          go_roundw
          case rel=>exact ⟨k+1,y',_,_,_,_,by omega,by go_num,r1,R2.out,EA.out,by (repeat (first|with_reducible assumption|with_reducible refine WOwn.alloc ?_ _|with_reducible refine WOwn.drew ?_|((with_reducible refine WOwn.store ?_ ?_ _);rotate_left;(focus (first|exact nu3|exact nu5))) )),nu3,by simp [go_sem, *],by simp [go_sem, *],by simp;omega,by exact zB⟩
          case measure=>simp [intOf];omega
    · have hk1:¬ (k:Int)<most:=by omega
      have ea:aloneN most.toNat x i=(y,k):=by
        have e0:most.toNat - k=0:=by omega
        rw [AL.out,e0]
        simp [aloneN]
      go_wp2
      (try rw [ea])
      refine bodyPost_ret (v:=.tuple #[.agg #[.int .i64 y.ch.cap,.int .i64 y.ch.sent,.int .i64 y.ch.got,.int .i64 y.ch.fin,.slice a1 y.ch.cells.length c1,.slice a2 y.ch.words.length c2,.slice (some ⟨g,0,none⟩) y.hands.length c3,.slice a4 y.deals.length c4,.int .i64 y.now],.int .i64 k]) (by simp [results,Tryz.results79,go_sem, *]) rfl ⟨⟨_,_,_,_,rfl,?_⟩,by exact zB⟩
      (repeat (first|with_reducible assumption|with_reducible refine WOwn.alloc ?_ _|with_reducible refine WOwn.drew ?_|((with_reducible refine WOwn.store ?_ ?_ _);rotate_left;(focus (first|exact N1))) ))
end Go.Proofs.YtkiingmgpobgnaaGreat
set_option linter.unusedSimpArgs false
set_option linter.unusedVariables false
namespace Go.Proofs.YtkiingmgpobgnaaGreat
open Go.RowKit
set_option maxHeartbeats 400000 in
theorem l1New_any (B n cap:Nat) (a:Option Addr) (bs:Nat→Int) (w:World) (hB:B≤w.heap.size) (hn:n≤4096) (hbs:∀ j,0≤bs j∧bs j≤255) (h:Seg w B a n 1 (fun j _=>.int .u8 (bs j))) :
    Calls Tryz.prog 19 #[.slice a n cap] w fun r w'=>∃ g,r=.returned (.pointer (some ⟨g,0,none⟩))∧DS w' B g∧w.heap.size≤g∧Below w.heap.size w w':=by
  have HS:=Lib.hid h
  have HB:=Lib.hid hbs
  clear h hbs
  go_enter Tryz.func19,Tryz.ntmps19
  go_wp2
  go_loop [3,4] (fun h i=>∃ (H:Int) (k:Nat),k≤n∧i=.int .i64 k∧h=.int .i64 H) (fun _ i=>n - (intOf i).toNat)
  case atStart=>exact ⟨_,0,Nat.zero_le _,rfl,rfl⟩
  case round =>
    obtain ⟨H,k,hk,rfl,rfl⟩:=hrel
    by_cases hlt:k<n
    · obtain h0|⟨b,o,rfl,hb,hc⟩:=HS.out
      · omega
      have cb:=hc k 0 hlt (by omega)
      have hbb:=HB.out k
      simp only [Nat.add_zero,Nat.mul_one] at cb
      clear hc
      generalize bs k=y at cb hbb
      obtain ⟨hy0,hy1⟩:=hbb
      go_wp2
      go_round
      case rel=>exact ⟨_,k+1,by omega,by go_num,rfl⟩
      case measure=>simp [intOf];omega
    · have:k=n:=by omega
      subst this
      go_wp2
      go_ret
      exact ⟨_,rfl,⟨a,k,cap,0,_,bs,heap_alloc_new w _,by omega,hn,hB,HB.out,HS.out.below ((Below.refl _ _).alloc hB _)⟩,Nat.le_refl _,(Below.refl _ _).alloc (Nat.le_refl _) _⟩
/-- What the laws are handed: at most 4096 bytes. -/
structure Code (w:World) (B:Nat) (a:Option Addr) (n:Nat) (bs:Nat→Int):Prop where
  len:n≤4096
  bd:∀ j,0≤bs j∧bs j≤255
  seg:Seg w B a n 1 (fun j _=>.int .u8 (bs j))
theorem Code.below {w w':World} {B n:Nat} {a:Option Addr} {bs:Nat→Int} (h:Code w B a n bs) (k:Below B w w'):Code w' B a n bs:=⟨h.len,h.bd,h.seg.below k⟩
theorem Code.more {w:World} {B B' n:Nat} {a:Option Addr} {bs:Nat→Int} (h:Code w B a n bs) (k:B≤B'):Code w B' a n bs:=⟨h.len,h.bd,h.seg.more k⟩
theorem new_any (B n cap:Nat) (a:Option Addr) (bs:Nat→Int) (w:World) (h:Code w B a n bs) (hB:B≤w.heap.size) :
    Calls Tryz.prog 19 #[.slice a n cap] w fun r w'=>∃ g,r=.returned (.pointer (some ⟨g,0,none⟩))∧DS w' B g∧w.heap.size≤g∧Below w.heap.size w w' :=
  l1New_any B n cap a bs w hB h.len h.bd h.seg
end Go.Proofs.YtkiingmgpobgnaaGreat
set_option linter.unusedSimpArgs false
set_option linter.unusedVariables false
namespace Go.Proofs.YtkiingmgpobgnaaGreat
open Go.RowKit
/-- A right call. -/
def RightK (r:Ending):Prop:=∃ k e:Int,r=.returned (.agg #[.int .i64 k,.int .i64 e])∧callOk k e=true
theorem right_send {x:Int} (h0:0≤x) (h1:x≤99):callOk 1 x=true:=by
  simp [callOk,inB];omega
set_option maxHeartbeats 1000000 in
theorem l4Draw_any (B g:Nat) (w:World) (hd:DS w B g):Calls Tryz.prog 52 #[.pointer (some ⟨g,0,none⟩)] w fun r w'=>RightK r∧DS w' B g∧Gr g w w':=by
  have hl:=hd.lt
  have hle:=hd.le
  go_enter Tryz.func52,Tryz.ntmps52
  go_wp2_with fail;refine (l1Once_any B g 2  _ (by (repeat (first|with_reducible assumption|with_reducible refine DS.alloc ?_|with_reducible refine DS.drew ?_|((with_reducible refine DS.setCell ?_ ?_ ?_);rotate_left;(focus ((try simp);(try omega)));(focus ((try simp);(try omega)))))))  (by omega) (by omega)).mono ?_;rintro _ w1 ⟨⟨y1,rfl⟩,hdw1,hgw1⟩;have hGw1:Gr g w w1:=gT (by (repeat (first|with_reducible assumption|with_reducible exact gR _ _|with_reducible refine gA ?_|with_reducible refine gD ?_|((with_reducible refine gS ?_ (.inr ?_));rotate_left;(focus ((try simp);(try omega))))))) hgw1;have hlw1:=hdw1.lt;have hsw1:=hgw1.size;(try (simp at hsw1));have:=gCell hgw1 (b:=w.heap.size) ((by ((try simp);(try omega)))) (by omega);have:=gFroz hgw1 (b:=w.heap.size) ((by ((try simp);(try omega)))) (by omega);have:w.heap.size<w1.heap.size:=(by omega);have:w.heap.size≤w1.heap.size:=(by omega);have:w.heap.size≤w1.heap.size+1:=(by omega)
  cases y1
  · go_wp2_with fail;refine (l1Below_any B g 100  _ (by (repeat (first|with_reducible assumption|with_reducible refine DS.alloc ?_|with_reducible refine DS.drew ?_|((with_reducible refine DS.setCell ?_ ?_ ?_);rotate_left;(focus ((try simp);(try omega)));(focus ((try simp);(try omega)))))))  (by omega) (by omega)).mono ?_;rintro _ w2 ⟨⟨x2,rfl,h20,h21⟩,hdw2,hgw2⟩;have hGw2:Gr g w w2:=gT (by (repeat (first|with_reducible assumption|with_reducible exact gR _ _|with_reducible refine gA ?_|with_reducible refine gD ?_|((with_reducible refine gS ?_ (.inr ?_));rotate_left;(focus ((try simp);(try omega))))))) hgw2;have hlw2:=hdw2.lt;have hsw2:=hgw2.size;(try (simp at hsw2));have:=gCell hgw2 (b:=w.heap.size) ((by ((try simp);(try omega)))) (by omega);have:=gFroz hgw2 (b:=w.heap.size) ((by ((try simp);(try omega)))) (by omega);have:w.heap.size<w2.heap.size:=(by omega);have:w.heap.size≤w2.heap.size:=(by omega);have:w.heap.size≤w2.heap.size+1:=(by omega)
    go_wp2
    refine bodyPost_ret (v:=.agg #[.int .i64 1,.int .i64 x2]) (by simp [results,Tryz.results52,go_sem, *]) rfl ⟨⟨_,_,rfl,right_send h20 (by omega)⟩,?_,?_⟩
    · (repeat (first|with_reducible assumption|with_reducible refine DS.alloc ?_|with_reducible refine DS.drew ?_|((with_reducible refine DS.setCell ?_ ?_ ?_);rotate_left;(focus ((try simp);(try omega)));(focus ((try simp);(try omega))))))
    · (repeat (first|with_reducible assumption|with_reducible exact gR _ _|with_reducible refine gA ?_|with_reducible refine gD ?_|((with_reducible refine gS ?_ (.inr ?_));rotate_left;(focus ((try simp);(try omega))))))
  · go_wp2
    refine bodyPost_ret (v:=.agg #[.int .i64 2,.int .i64 0]) (by simp [results,Tryz.results52,go_sem, *]) rfl ⟨⟨_,_,rfl,by decide⟩,?_,?_⟩
    · (repeat (first|with_reducible assumption|with_reducible refine DS.alloc ?_|with_reducible refine DS.drew ?_|((with_reducible refine DS.setCell ?_ ?_ ?_);rotate_left;(focus ((try simp);(try omega)));(focus ((try simp);(try omega))))))
    · (repeat (first|with_reducible assumption|with_reducible exact gR _ _|with_reducible refine gA ?_|with_reducible refine gD ?_|((with_reducible refine gS ?_ (.inr ?_));rotate_left;(focus ((try simp);(try omega))))))
end Go.Proofs.YtkiingmgpobgnaaGreat
set_option linter.unusedSimpArgs false
set_option linter.unusedVariables false
namespace Go.Proofs.YtkiingmgpobgnaaGreat
def busyN (c:C3):Nat:=if 2≤c.s then 1 else 0
/-- How many cells are not free. -/
def busyC:List C3→Nat
  | []=>0
  | c :: cs=>busyN c+busyC cs
theorem busy_le:∀ l:List C3,busyC l≤l.length
  | []=>Nat.le_refl _
  | c :: cs=>by
    have:=busy_le cs
    have:busyN c≤1:=by unfold busyN;split <;> omega
    simp only [busyC,List.length_cons];omega
theorem busy_set:∀ (l:List C3) (i:Nat) (x d:C3),i<l.length→busyC (l.set i x)+busyN (l.getD i d)=busyC l+busyN x
  | [],i,x,d,h=>by simp at h
  | c :: cs,0,x,d,_=>by simp [busyC];omega
  | c :: cs,i+1,x,d,h=>by
    have:=busy_set cs i x d (by simpa using h)
    simp only [List.set_cons_succ,busyC,List.getD_cons_succ];omega
def Wn (c:Ch):Prop:=c.words.length≤busyC c.cells
theorem wn_max {c:Ch} (h:Wn c) (hl:c.cells.length≤40):c.words.length≤40:=Nat.le_trans h (Nat.le_trans (busy_le _) hl)
theorem busy_far (l:List C3) (i:Nat) (x:C3) (h:¬ i<l.length):l.set i x=l:=List.set_eq_of_length_le (by omega)
/-- A cell is set to one that is at least as busy. -/
theorem wn_set {c:Ch} {i:Int} {x:C3} (h:Wn c) (hx:busyN (cellAt c i)≤busyN x):Wn (setAt c i x):=by
  unfold Wn setAt at *
  by_cases hi:i.toNat<c.cells.length
  · have:=busy_set c.cells i.toNat x ⟨0,0,0⟩ hi
    unfold cellAt at hx
    simp only;omega
  · simp only [busy_far _ _ _ hi];exact h
theorem busy_one {x:C3} (h:2≤x.s):busyN x=1:=by simp [busyN,h]
theorem busy_top (x:C3):busyN x≤1:=by unfold busyN;split <;> omega
theorem wn_state {c:Ch} {i st:Int} (h:Wn c) (hs:2≤st):Wn (stateC c i st):=wn_set h (by rw [busy_one (x:={ cellAt c i with s:=st }) hs];exact busy_top _)
theorem turnS_cases (s e t f n v:Int):(turnB s e t f n v=true∧s=f∧turnS s e t f n v=n)∨(turnB s e t f n v=false∧turnS s e t f n v=s):=by
  by_cases h:turnB s e t f n v=true
  · refine .inl ⟨h,?_,by simp [turnS,h]⟩
    simp [turnB] at h
    exact h.1
  · exact .inr ⟨by simpa using h,by simp [turnS,h]⟩
theorem wn_turn {c:Ch} {i f t v:Int} (h:Wn c) (ht:2≤t∨f<2):Wn (turnC c i f t v):=by
  refine wn_set h ?_
  rcases turnS_cases (cellAt c i).s (cellAt c i).e (cellAt c i).t f t v with ⟨_,e1,e2⟩|⟨_,e2⟩
  · rcases ht with ht|ht
    · rw [busy_one (x:=turnX (cellAt c i) f t v) (by show 2≤turnS _ _ _ _ _ _;rw [e2];exact ht)];exact busy_top _
    · have:¬ 2≤(cellAt c i).s:=by omega
      simp [busyN,this]
  · simp only [busyN,turnX,e2];exact Nat.le_refl _
theorem wn_lay {c:Ch} {i m:Int} (h:Wn c):Wn (layC c i m):=wn_set h (Nat.le_refl _)
theorem wn_tell {c:Ch} {v x:Int} (h:Wn c):Wn (tellC c v x):=by
  unfold tellC
  split
  · unfold Wn at *;simpa using h
  · exact h
/-- One who waits has a word more, and a free cell less. -/
theorem wn_wait {c:Ch} {h:Ha} {st th el:Int} (H:Wn c) (hs:h.seen<2) (ht:2≤st) (hi:h.cell.toNat<c.cells.length):Wn (wait6 c h st th el).1:=by
  unfold wait6
  split
  · exact H
  · split
    · rename_i hb
      unfold turnCB turnXB at hb
      have e1:(cellAt c h.cell).s=h.seen:=by simp [turnB] at hb;exact hb.1
      have B:=busy_set c.cells h.cell.toNat (turnX (cellAt c h.cell) h.seen st (c.words.length+1)) ⟨0,0,0⟩ hi
      have b0:busyN (c.cells.getD h.cell.toNat ⟨0,0,0⟩)=0:=by
        have:¬ 2≤(cellAt c h.cell).s:=by omega
        exact if_neg this
      have b1:busyN (turnX (cellAt c h.cell) h.seen st (c.words.length+1))=1:=busy_one (by show 2≤turnS _ _ _ _ _ _;simp only [turnS,hb];exact ht)
      unfold Wn turnC setAt at *
      simp only [List.length_append,List.length_cons,List.length_nil]
      omega
    · exact wn_turn H (.inl ht)
def KeepN (c:Ch) (s:St):Prop:=Wn c→s.2.2=true→Wn s.1
theorem keep_no (c:Ch) (a:Ch) (b:Ha):KeepN c (a,b,false):=fun _ e=>by cases e
theorem keep_nothing (c:Ch):KeepN c nothing:=fun _ e=>by cases e
theorem keep_done {c c':Ch} {h':Ha} (H:Wn c→Wn c'):KeepN c (done c' h'):=by
  unfold done
  split
  · exact fun h _=>H h
  · exact keep_nothing c
theorem cell_in {c:Ch} {h:Ha} {f t k:Int} (e:stepOk c h f t k=true):h.cell.toNat<c.cells.length∧h.grow.toNat<c.cells.length:=by
  simp only [stepOk,handOk,handB,Bool.and_eq_true,inB_iff] at e
  have:=(chan_parts e.1).1
  obtain ⟨_,⟨_,⟨⟨a0,a1⟩,⟨b0,b1⟩,_⟩,_⟩,_⟩:=e
  omega
theorem wn_send (c:Ch) (h:Ha):KeepN c (sendStep c h):=by
  unfold sendStep
  split
  · rename_i e
    have hi:=(cell_in e).1
    repeat' split
    · unfold send1;split <;> exact keep_done fun H=>H
    · exact keep_done fun H=>wn_lay H
    · unfold send3;split
      · exact keep_done fun H=>H
      · exact keep_nothing c
    · exact keep_done fun H=>H
    · exact keep_done fun H=>H
    · unfold put6
      split
      · exact keep_nothing c
      · split
        · rename_i e2
          simp at e2
          exact keep_done fun H=>wn_wait H (by omega) (by decide) hi
        · split <;> exact keep_done fun H=>wn_turn H (.inl (by decide))
    · exact keep_done fun H=>wn_tell H
    · exact keep_done fun H=>wn_state H (by decide)
  · exact keep_nothing c
theorem wn_recv (c:Ch) (h:Ha):KeepN c (recvStep c h):=by
  unfold recvStep
  split
  · rename_i e
    have hi:=(cell_in e).1
    repeat' split
    · unfold recv1;split <;> exact keep_done fun H=>H
    · unfold recv2
      repeat' split
      · exact keep_no c _ _
      · exact keep_done fun H=>H
      · exact keep_nothing c
    · exact keep_done fun H=>H
    · unfold take7 turn7
      repeat' split
      all_goals first|exact keep_nothing c|exact keep_done fun H=>wn_turn H (.inl (by decide))|skip
      rename_i h2 _
      simp at h2
      exact keep_done fun H=>wn_wait H (by omega) (by decide) hi
    · exact keep_done fun H=>wn_tell H
    · exact keep_done fun H=>wn_state H (by decide)
    · exact keep_done fun H=>wn_state H (by decide)
  · exact keep_nothing c
theorem wn_grow (c:Ch) (h:Ha):KeepN c (growStep c h):=by
  unfold growStep
  repeat' split
  all_goals try exact keep_nothing c
  · unfold begin8;split <;> exact keep_done fun H=>H
  · exact keep_done fun H=>H
  · exact keep_done fun H=>H
  · unfold meetStep;split
    · exact keep_no c _ _
    · exact keep_done fun H=>H
  · unfold pull8 turn8
    repeat' split
    all_goals first|exact keep_nothing c|exact keep_done fun H=>wn_turn H (.inl (by decide))|skip
    all_goals
      rename_i h0 _
      simp at h0
      exact keep_done fun H=>wn_turn H (.inr (by omega))
  · exact keep_done fun H=>wn_tell H
  · exact keep_done fun H=>wn_state H (by decide)
  · exact keep_done fun H=>wn_state H (by decide)
theorem wn_park (c:Ch) (h:Ha):KeepN c (parkStep c h):=by
  unfold parkStep
  repeat' split
  all_goals try exact keep_nothing c
  · unfold park9
    repeat' split
    all_goals first|exact keep_no c _ _|exact keep_done fun H=>H
  · exact keep_done fun H=>H
  · exact keep_done fun H=>wn_state H (by unfold goneS;split <;> decide)
theorem wn_step (c:Ch) (h:Ha):KeepN c (stepC c h):=by
  unfold stepC
  repeat' split
  · exact wn_send c h
  · exact wn_recv c h
  · exact wn_grow c h
  · exact wn_park c h
theorem step11_wn {x:Wo} {who:Int} (hx:RightW x) (ht:taskOk x who=true) (h:Wn x.ch) (hs:(step11 x who).2=true):Wn (step11 x who).1.ch:=by
  obtain ⟨_,_,_,r4,r5⟩:=step_right hx ht hs
  rw [r4]
  exact wn_step _ _ h r5
theorem aloneN_wn (n:Nat):∀ (x:Wo) (who:Int),RightW x→taskOk x who=true→Wn x.ch→Wn (aloneN n x who).1.ch:=by
  induction n with
  | zero=>exact fun x who _ _ h=>h
  | succ n ih =>
    intro x who hx ht h
    unfold aloneN
    split
    · exact h
    · split
      · rename_i h1
        obtain ⟨r1,r2,_⟩:=step_right hx ht h1
        exact ih _ who r1 (by unfold taskOk at ht ⊢;rw [r2];exact ht) (step11_wn hx ht h h1)
      · exact h
theorem alone_wn {x:Wo} {who most:Int} (hx:RightW x) (ht:taskOk x who=true) (h0:0≤most) (h1:most≤20000) (h:Wn x.ch):Wn (alone x who most).1.ch:=by
  have e:alone x who most=((aloneN most.toNat x who).1,((aloneN most.toNat x who).2:Int)):=by simp [alone,(rightW_iff x).2 hx,ht,inB_yes h0 h1]
  rw [e]
  exact aloneN_wn _ _ _ hx ht h
theorem stopped_wn {x:Wo} {who:Int} (hx:RightW x) (ht:taskOk x who=true) (h:Wn x.ch):Wn (stopped x who).1.ch:=by
  unfold stopped
  rw [if_pos (by simp [(rightW_iff x).2 hx,ht])]
  split
  · exact h
  · exact wn_tell h
theorem new_wn {cap tasks:Int} (h0:0≤cap) (h1:cap≤4) (h2:1≤tasks) (h3:tasks≤6):Wn (newWorld cap tasks).1.ch:=by
  unfold Wn
  rw [(new_right h0 h1 h2 h3).2.2.2]
  exact Nat.zero_le _
/-- A right world in which there are no more words than cells that are not free, of so many tasks. -/
structure GoodW (n:Nat) (x:Wo):Prop where
  right:RightW x
  wn:Wn x.ch
  len:x.hands.length=n
theorem step11_no {x:Wo} {who:Int} (h:(step11 x who).2=false):(step11 x who).1=x:=by
  unfold step11 stepW at *
  repeat' split at h
  all_goals first|cases h|skip
  all_goals simp_all
theorem GoodW.step {n:Nat} {x:Wo} {who:Int} (h:GoodW n x) (ht:taskOk x who=true):GoodW n (step11 x who).1:=by
  cases hs:(step11 x who).2 with
  | true =>
    obtain ⟨r1,r2,_⟩:=step_right h.right ht hs
    exact ⟨r1,step11_wn h.right ht h.wn hs,r2.trans h.len⟩
  | false=>rw [step11_no hs];exact h
theorem GoodW.asked {n:Nat} {x:Wo} {who k e:Int} (h:GoodW n x) (ht:taskOk x who=true):GoodW n (asked x who k e).1:=by
  obtain ⟨r1,r2,r3⟩:=asked_right (k:=k) (e:=e) h.right ht
  exact ⟨r1,by rw [r3];exact h.wn,r2.trans h.len⟩
theorem GoodW.stopped {n:Nat} {x:Wo} {who:Int} (h:GoodW n x) (ht:taskOk x who=true):GoodW n (stopped x who).1:=by
  obtain ⟨r1,r2,_⟩:=stopped_right h.right ht
  exact ⟨r1,stopped_wn h.right ht h.wn,r2.trans h.len⟩
theorem GoodW.task {n:Nat} {x:Wo} {i:Nat} (h:GoodW n x) (hi:i<n):taskOk x i=true:=by
  have:=h.len
  simp [taskOk,taskB,inB];omega
theorem GoodW.words {n:Nat} {x:Wo} (h:GoodW n x):x.ch.words.length≤40∧x.ch.cells.length=40:=by
  have:=chan_parts h.right.ch
  exact ⟨wn_max h.wn (by omega),this.1⟩
end Go.Proofs.YtkiingmgpobgnaaGreat
set_option linter.unusedSimpArgs false
set_option linter.unusedVariables false
namespace Go.Proofs.YtkiingmgpobgnaaGreat
open Go.RowKit
set_option linter.unusedSimpArgs false
attribute [local simp] bx_size
attribute [local go_sem ↓] zeroHand toLHand toVHand toSHand storeHandC
attribute [local go_sem] runSHand
theorem DSx.keep {w w':World} {B g n cap:Nat} {a:Option Addr} (h:DSx w B g a n cap) (e:w'.heap[g]?=w.heap[g]?) (k:Below B w w'):DSx w' B g a n cap:=by
  obtain ⟨i,h,bs,hg,h1,h2,h3,h4,h5⟩:=h
  exact ⟨i,h,bs,e.trans hg,h1,h2,h3,h4,h5.below k⟩
theorem DSx.alloc {w:World} {B g n cap:Nat} {a:Option Addr} {o:Obj} (h:DSx w B g a n cap):DSx (w.alloc o) B g a n cap:=h.keep (Below.heap_alloc w o g h.ds.lt) ((Below.refl _ _).alloc (by have:=h.ds.lt;have:=h.ds.le;omega) o)
theorem DSx.drew {w:World} {B g n cap:Nat} {a:Option Addr} (h:DSx w B g a n cap):DSx w.drew B g a n cap:=h
theorem l1Min_bd (a b:Int) (w:World):Calls Tryz.prog 78 #[.int .i64 a,.int .i64 b] w fun r w'=>(∃ m,r=.returned (.int .i64 m)∧(m=a∨m=b)∧m≤b)∧w=w':=by
  refine (l1Min_any a b w).mono ?_
  rintro _ _ ⟨rfl,rfl⟩
  refine ⟨⟨_,rfl,?_,?_⟩,rfl⟩ <;> split <;> omega
theorem WOwn.segs {w:World} {lo:Nat} {a b d e:Option Addr} {p q r s:Nat} {y:Wo} (h:WOwn w lo (.slice a y.ch.cells.length p) (.slice b y.ch.words.length q) (.slice d y.hands.length r) (.slice e y.deals.length s) y):Seg w w.heap.size a y.ch.cells.length 3 (cellF y.ch.cells)∧(a=none→p=0)∧Seg w w.heap.size b y.ch.words.length 1 (intF y.ch.words)∧(b=none→q=0)∧Seg w w.heap.size d y.hands.length 14 (handF y.hands)∧(d=none→y.hands.length=0∧r=0)∧Seg w w.heap.size e y.deals.length 7 (dealF y.deals)∧(e=none→y.deals.length=0∧s=0):=by
  obtain ⟨a',b',d',e',p',q',r',s',e1,e2,e3,e4,H⟩:=h.opens
  simp at e1 e2 e3 e4
  obtain ⟨rfl,rfl⟩:=e1
  obtain ⟨rfl,rfl⟩:=e2
  obtain ⟨rfl,rfl⟩:=e3
  obtain ⟨rfl,rfl⟩:=e4
  exact H
theorem WOwn.gr {w w':World} {lo g:Nat} {v1 v2 v3 v4:Value} {y:Wo} (h:WOwn w lo v1 v2 v3 v4 y) (hg:Gr g w w') (hl:g<lo):WOwn w' lo v1 v2 v3 v4 y:=⟨h.1.kept hg (.inr (own_ne h.1 hl)),h.2.1.kept hg (.inr (own_ne h.2.1 hl)),h.2.2.1.kept hg (.inr (own_ne h.2.2.1 hl)),h.2.2.2.kept hg (.inr (own_ne h.2.2.2 hl))⟩
theorem gB {w W w1:World} {g:Nat} (h:Gr g w W) (k:Below W.heap.size W w1):Gr g w w1:=gT h ⟨k.os,k.tape,k.output,k.size,fun i hi _=>k.block i hi⟩
theorem alone_made {x:Wo} {who most:Int} (hx:RightW x) (ht:taskOk x who=true) (h0:0≤most) (h1:most≤20000):RightW (alone x who most).1∧(alone x who most).1.hands.length=x.hands.length∧(alone x who most).1.ch.words.length≤x.ch.words.length+1:=by
  have e:alone x who most=((aloneN most.toNat x who).1,((aloneN most.toNat x who).2:Int)):=by simp [alone,(rightW_iff x).2 hx,ht,inB_yes h0 h1]
  rw [e]
  obtain ⟨r1,r2,r3,_⟩:=alone_right most.toNat x who hx ht
  exact ⟨r1,r2,r3⟩
theorem asked_own (y:Wo) (who kk ee:Int) (a b d e:Option Addr) (p q r s lo:Nat) (w:World) (h:WOwn w lo (.slice a y.ch.cells.length p) (.slice b y.ch.words.length q) (.slice d y.hands.length r) (.slice e y.deals.length s) y) (hy:RightW y) :
    Calls Tryz.prog 51 #[.agg #[.int .i64 y.ch.cap,.int .i64 y.ch.sent,.int .i64 y.ch.got,.int .i64 y.ch.fin,.slice a y.ch.cells.length p,.slice b y.ch.words.length q,.slice d y.hands.length r,.slice e y.deals.length s,.int .i64 y.now],.int .i64 who,.agg #[.int .i64 kk,.int .i64 ee]] w fun r w'=>WordR w w' (asked y who kk ee).1 (.int .i64 (asked y who kk ee).2) r:=by
  obtain ⟨s1,t1,s2,t2,s3,t3,s4,t4⟩:=h.segs
  obtain ⟨y1,y2,y3,y4⟩:=right_len hy
  exact sAsked_any y who kk ee a b d e p q r s w s1 t1 s2 t2 s3 t3 s4 t4 y1 y2 y3 y4
theorem alone_own (y:Wo) (who most:Int) (a b d e:Option Addr) (p q r s lo:Nat) (w:World) (h:WOwn w lo (.slice a y.ch.cells.length p) (.slice b y.ch.words.length q) (.slice d y.hands.length r) (.slice e y.deals.length s) y) (hy:RightW y) (ht:taskOk y who=true) (hm0:0≤most) (hm1:most≤20000) :
    Calls Tryz.prog 79 #[.agg #[.int .i64 y.ch.cap,.int .i64 y.ch.sent,.int .i64 y.ch.got,.int .i64 y.ch.fin,.slice a y.ch.cells.length p,.slice b y.ch.words.length q,.slice d y.hands.length r,.slice e y.deals.length s,.int .i64 y.now],.int .i64 who,.int .i64 most] w fun r w'=>WordR w w' (alone y who most).1 (.int .i64 (alone y who most).2) r:=by
  obtain ⟨s1,t1,s2,t2,s3,t3,s4,t4⟩:=h.segs
  obtain ⟨y1,y2,y3,y4⟩:=right_len hy
  exact alone_yes y who most a b d e p q r s w s1 t1 s2 t2 s3 t3 s4 t4 y1 y2 y3 y4 ((rightW_iff y).2 hy) ht hm0 hm1
theorem stopped_own (y:Wo) (who:Int) (a b d e:Option Addr) (p q r s lo:Nat) (w:World) (h:WOwn w lo (.slice a y.ch.cells.length p) (.slice b y.ch.words.length q) (.slice d y.hands.length r) (.slice e y.deals.length s) y) (hy:RightW y) :
    Calls Tryz.prog 55 #[.agg #[.int .i64 y.ch.cap,.int .i64 y.ch.sent,.int .i64 y.ch.got,.int .i64 y.ch.fin,.slice a y.ch.cells.length p,.slice b y.ch.words.length q,.slice d y.hands.length r,.slice e y.deals.length s,.int .i64 y.now],.int .i64 who] w fun r w'=>WordR w w' (stopped y who).1 (.bool (stopped y who).2) r:=by
  obtain ⟨s1,t1,s2,t2,s3,t3,s4,t4⟩:=h.segs
  obtain ⟨y1,y2,y3,y4⟩:=right_len hy
  exact sStopped_any y who a b d e p q r s w s1 t1 s2 t2 s3 t3 s4 t4 y1 y2 y3 y4
/-- A world whose lists are the call's own is answered. -/
def WorldR (w':World) (lo:Nat) (P:Wo→Prop) (r:Ending):Prop:=∃ x v1 v2 v3 v4,r=.returned (.agg #[.int .i64 x.ch.cap,.int .i64 x.ch.sent,.int .i64 x.ch.got,.int .i64 x.ch.fin,v1,v2,v3,v4,.int .i64 x.now])∧WOwn w' lo v1 v2 v3 v4 x∧P x
set_option maxRecDepth 100000 in
set_option maxHeartbeats 4000000 in
theorem l11Draw_any (B g:Nat) (w:World) (hd:DS w B g):Calls Tryz.prog 48 #[.pointer (some ⟨g,0,none⟩)] w fun r w'=>WorldR w' w.heap.size (fun x=>RightW x∧x.ch.words.length≤37∧Wn x.ch) r∧DS w' B g∧Gr g w w':=by
  have hl:=hd.lt
  have hle:=hd.le
  go_enter Tryz.func48,Tryz.ntmps48
  have mg0:some w.heap.size≠some g:=by simp;omega
  go_wp2_with fail;refine (l1Below_any B g 3  _ (by (repeat (first|with_reducible assumption|with_reducible refine DS.alloc ?_|with_reducible refine DS.drew ?_|((with_reducible refine DS.setCell ?_ ?_ ?_);rotate_left;(focus ((try simp);(try omega)));(focus ((try simp);(try omega)))))))  (by omega) (by omega)).mono ?_;rintro _ w1 ⟨⟨x1,rfl,h10,h11⟩,hdw1,hgw1⟩;have hGw1:Gr g w w1:=gT (by (repeat (first|with_reducible assumption|with_reducible exact gR _ _|with_reducible refine gA ?_|with_reducible refine gD ?_|((with_reducible refine gS ?_ (.inr ?_));rotate_left;(focus ((try simp);(try omega))))))) hgw1;have hlw1:=hdw1.lt;have hsw1:=hgw1.size;(try (simp at hsw1))
  have hsw1:=hgw1.size;(try (simp at hsw1));have zz:=grHp hgw1 (b:=w.heap.size) (by (try simp) <;> omega) (by assumption);(try simp [go_sem] at zz);(try clear z_w x_w f_w l_w);have z_w:=zz;clear zz;obtain ⟨x_w,f_w,l_w⟩:=bO z_w
  go_wp2_with fail;refine (l1Below_any B g 4  _ (by (repeat (first|with_reducible assumption|with_reducible refine DS.alloc ?_|with_reducible refine DS.drew ?_|((with_reducible refine DS.setCell ?_ ?_ ?_);rotate_left;(focus ((try simp);(try omega)));(focus ((try simp);(try omega)))))))  (by omega) (by omega)).mono ?_;rintro _ w2 ⟨⟨x2,rfl,h20,h21⟩,hdw2,hgw2⟩;have hGw2:Gr g w w2:=gT (by (repeat (first|with_reducible assumption|with_reducible exact gR _ _|with_reducible refine gA ?_|with_reducible refine gD ?_|((with_reducible refine gS ?_ (.inr ?_));rotate_left;(focus ((try simp);(try omega))))))) hgw2;have hlw2:=hdw2.lt;have hsw2:=hgw2.size;(try (simp at hsw2))
  have hsw2:=hgw2.size;(try (simp at hsw2));have zz:=grHp hgw2 (b:=w.heap.size) (by (try simp) <;> omega) (by assumption);(first|simp [go_sem,z_w,l_w] at zz|simp [go_sem] at zz|skip);(try clear z_w x_w f_w l_w);have z_w:=zz;clear zz;obtain ⟨x_w,f_w,l_w⟩:=bO z_w
  obtain ⟨nt,nr,nl,nw⟩:=new_right (cap:=x1) (tasks:=1+x2) h10 (by omega) (by omega) (by omega)
  have nN:=new_wn (cap:=x1) (tasks:=1+x2) h10 (by omega) (by omega) (by omega)
  have hNW:=sNewWorld_yes x1 (1+x2) w2 h10 (by omega) (by omega) (by omega)
  rw [nt] at hNW
  have HN:=Lib.hid (And.intro nr (And.intro nl (And.intro nw nN)))
  generalize (newWorld x1 (1+x2)).1=x at *
  clear nt nr nl nw nN
  go_wp2_with fail;refine bHit w2 (by exact zB) fun bk=>?_;refine (hNW).mono ?_;rintro _ w3 ⟨⟨v1,v2,v3,v4,rfl,hown⟩,hbw3⟩;have hsw3:=hbw3.size;(try simp at hsw3);have zz:=hQ hbw3 (b:=w.heap.size);(first|simp [go_sem,z_w,l_w] at zz|simp [go_sem] at zz|skip);(try clear z_w x_w f_w l_w);have z_w:=zz;clear zz;obtain ⟨x_w,f_w,l_w⟩:=bO z_w;have hKw3:Below w2.heap.size w2 w3:=bT bk hbw3;clear hbw3 bk
  have hd3:=hdw2.below hKw3
  have hG3:Gr g w w3:=gT hGw2 ⟨hKw3.os,hKw3.tape,hKw3.output,hKw3.size,fun i hi _=>hKw3.block i hi⟩
  have UO:=Lib.hid hown
  obtain ⟨a1,a2,a3,a4,c1,c2,c3,c4,rfl,rfl,rfl,rfl,_⟩:=hown.opens
  obtain ⟨ca,cn,cc,hdx⟩:=hd3.dsx
  obtain ⟨cb,hcn⟩:=hdx.cell0
  have l_g:g<w3.heap.size:=hd3.lt
  go_wp2_with fail
  have mg1:some w3.heap.size≠some g:=by simp;omega
  have x_w3:∀ o,(w3.alloc (.cells #[.int .i64 x.ch.cap,.int .i64 x.ch.sent,.int .i64 x.ch.got,.int .i64 x.ch.fin,.slice a1 x.ch.cells.length c1,.slice a2 x.ch.words.length c2,.slice a3 x.hands.length c3,.slice a4 x.deals.length c4,.int .i64 x.now] 74)).cell? ⟨w3.heap.size,o,none⟩=_:=fun o=>cell_of_row _ w3.heap.size o _ _ _ (heap_alloc_new w3 _)
  go_region_held3 (fun w'=>w'.cell? ⟨g,0,none⟩=some (.slice ca cn cc))
    (first|(simp [*,go_sem]))
    (first|(go_at_call 49;refine (l1Below_x B g cn cc ca 30 _ ?_ ?_ ?_).mono ?_;rotate_left;(focus omega);(focus omega);rotate_left;(focus (exact hdx.alloc));rintro _ w4 ⟨⟨x4,rfl,h40,h41⟩,hd4,hg4⟩;have k4:=hd4.cell0.1;have hG4:Gr g w w4:=gT (by (repeat (first|with_reducible assumption|with_reducible exact gR _ _|with_reducible refine gA ?_|with_reducible refine gD ?_|((with_reducible refine gS ?_ (.inr ?_));rotate_left;(focus ((try simp);(try omega))))))) hg4)|(go_at_call 78;refine (l1Min_bd _ _ _).mono ?_;rintro _ _ ⟨⟨N,rfl,hN0,hN1⟩,rfl⟩))
  have hN:0≤N∧N≤37:=by
    have i1:IntKind.i64.wrap (3+(cn:Int))=3+cn:=IntWalk.i64_in _ (by omega)
    have i2:IntKind.i64.wrap (8+x4)=8+x4:=IntWalk.i64_in _ (by omega)
    omega
  clear hN0 hN1
  have hs4:=hg4.size
  simp at hs4
  have y_w3:=fun o=>grCell hg4 (b:=w3.heap.size) (by simp) mg1 o
  have hsw4:=hg4.size;(try (simp at hsw4));have zz:=grHp hg4 (b:=w.heap.size) (by (try simp) <;> omega) (by assumption);(first|simp [go_sem,z_w,l_w] at zz|simp [go_sem] at zz|skip);(try clear z_w x_w f_w l_w);have z_w:=zz;clear zz;obtain ⟨x_w,f_w,l_w⟩:=bO z_w
  go_wp2_with fail
  go_loopw [5] (fun n wr=>∃ (m:Nat) (y:Wo) (v1 v2 v3 v4:Value),n=.int .i64 m∧RightW y∧Wn y.ch∧y.ch.words.length+m≤37∧WOwn wr (w.heap.size+1) v1 v2 v3 v4 y∧WOff w3.heap.size v1 v2 v3 v4∧hp wr w3.heap.size=some (.cells #[.int .i64 y.ch.cap,.int .i64 y.ch.sent,.int .i64 y.ch.got,.int .i64 y.ch.fin,v1,v2,v3,v4,.int .i64 y.now] 74)∧hp wr w.heap.size=some (.cells #[.int .i64 0,.int .i64 0,.int .i64 0,.int .i64 0,.slice none 0 0,.slice none 0 0,.slice none 0 0,.slice none 0 0,.int .i64 0] 74)∧w3.heap.size+1≤wr.heap.size∧DS wr B g∧Gr g w wr) (fun n _=>(intOf n).toNat)
  case atStart =>
    obtain ⟨nr,nl,nw,nN⟩:=HN.out
    have uu:=UO.out
    have u3:=WOwn.lo (lo':=w.heap.size+1) uu (by omega)
    have hgl:g<w.heap.size+1:=by omega
    have u4:=WOwn.gr (WOwn.drew (WOwn.alloc u3 _)) hg4 hgl
    have u5:=u3.ne' (Nat.le_refl _)
    refine ⟨N.toNat,x,_,_,_,_,by simp;omega,nr,nN,by omega,u4,u5,(grHp hg4 (by simp) mg1).trans (heap_alloc_new w3 _),z_w,by omega,hd4.ds,hG4⟩
  case round =>
    clear z_w x_w f_w l_w
    obtain ⟨m,y,v1,v2,v3,v4,rfl,hy,hN,hw,hown,hoff,z_w3,z_w,hsz,hd,hG⟩:=hrel
    have l_w:w.heap.size<wr.heap.size:=by omega
    have hww:w.heap.size<w3.heap.size:=by omega
    have l_w3:w3.heap.size<wr.heap.size:=by omega
    have x_w:∀ o,wr.cell? ⟨w.heap.size,o,none⟩=_:=fun o=>cell_of_row wr w.heap.size o _ _ _ z_w
    have f_w:∀ o,wr.frozen? ⟨w.heap.size,o,none⟩=false:=heap_frozen z_w
    have f_w3:∀ o,wr.frozen? ⟨w3.heap.size,o,none⟩=false:=heap_frozen z_w3
    obtain ⟨a1,a2,a3,a4,c1,c2,c3,c4,rfl,rfl,rfl,rfl,_⟩:=hown.opens
    have x_w3:∀ o,wr.cell? ⟨w3.heap.size,o,none⟩=_:=fun o=>cell_of_row wr w3.heap.size o _ _ _ z_w3
    have OW:=Lib.hid hown
    have h1:=hy.h1
    have h6:=hy.h6
    clear hown
    by_cases hm:m=0
    · have hm2:¬ (0:Int)<(m:Int):=by omega
      go_wp2
      have OL:=OW.out.lo (lo':=w.heap.size) (by omega)
      have N1:=OW.out.ne (b:=w.heap.size) (by omega)
      refine bodyPost_ret (v:=.agg #[.int .i64 y.ch.cap,.int .i64 y.ch.sent,.int .i64 y.ch.got,.int .i64 y.ch.fin,.slice a1 y.ch.cells.length c1,.slice a2 y.ch.words.length c2,.slice a3 y.hands.length c3,.slice a4 y.deals.length c4,.int .i64 y.now]) (by simp [results,Tryz.results48,go_sem, *]) rfl ⟨⟨_,_,_,_,_,rfl,?_,hy,by omega,hN⟩,?_,?_⟩
      · (repeat (first|with_reducible assumption|with_reducible refine WOwn.alloc ?_ _|with_reducible refine WOwn.drew ?_|((with_reducible refine WOwn.store ?_ ?_ _);rotate_left;(focus (first|exact N1))) ))
      · (repeat (first|with_reducible assumption|with_reducible refine DS.alloc ?_|with_reducible refine DS.drew ?_|((with_reducible refine DS.setCell ?_ ?_ ?_);rotate_left;(focus ((try simp);(try omega)));(focus ((try simp);(try omega))))))
      · (repeat (first|with_reducible assumption|with_reducible exact gR _ _|with_reducible refine gA ?_|with_reducible refine gD ?_|((with_reducible refine gS ?_ (.inr ?_));rotate_left;(focus ((try simp);(try omega))))))
    · have hm2:(0:Int)<(m:Int):=by omega
      go_wp2_with fail;refine (l1Below_any B g (y.hands.length:Int)  _ (by (repeat (first|with_reducible assumption|with_reducible refine DS.alloc ?_|with_reducible refine DS.drew ?_|((with_reducible refine DS.setCell ?_ ?_ ?_);rotate_left;(focus ((try simp);(try omega)));(focus ((try simp);(try omega)))))))  (by omega) (by omega)).mono ?_;rintro _ w5 ⟨⟨z,rfl,hz0,hz1⟩,hdw5,hgw5⟩;have hGw5:Gr g w w5:=gT (by (repeat (first|with_reducible assumption|with_reducible exact gR _ _|with_reducible refine gA ?_|with_reducible refine gD ?_|((with_reducible refine gS ?_ (.inr ?_));rotate_left;(focus ((try simp);(try omega))))))) hgw5;have hlw5:=hdw5.lt;have hsw5:=hgw5.size;(try (simp at hsw5))
      obtain ⟨i,rfl⟩:=Int.eq_ofNat_of_zero_le hz0
      have hi:i<y.hands.length:=by omega
      have hi1:(i:Int)<(y.hands.length:Int):=by omega
      have ht:taskOk y i=true:=by simp [taskOk,taskB,inB];omega
      have hsw5:=hgw5.size;(try (simp at hsw5));have zz:=And.intro (grHp hgw5 (b:=w3.heap.size) (by (try simp) <;> omega) (by assumption)) <| grHp hgw5 (b:=w.heap.size) (by (try simp) <;> omega) (by assumption);(first|simp [go_sem,z_w3,z_w,l_w,l_w3] at zz|simp [go_sem] at zz|skip);(try clear z_w3 x_w3 f_w3 l_w3);(try clear z_w x_w f_w l_w);obtain ⟨z_w3,z_w⟩:=zz;obtain ⟨x_w3,f_w3,l_w3⟩:=bO z_w3;obtain ⟨x_w,f_w,l_w⟩:=bO z_w
      have OW5:=OW.out.gr hgw5 (by omega)
      obtain ⟨gh,gq,eg,_,lg,hgc,_⟩:=OHands.open1 OW5.2.2.1 hi
      simp at eg
      obtain ⟨rfl,rfl⟩:=eg
      have cpos:w5.cell? ⟨gh,i*14,none⟩=some (.int .i64 (handAt y i).pos):=(hgc 0 (by omega)).trans (by simp [handAt,hvals,Array.getD])
      clear hgc
      by_cases hp0:(handAt y i).pos=0
      · go_wp2_with fail
        have hl5:=hdw5.lt
        go_region_with (first|(go_at_call 52;refine (l4Draw_any B g _ (by (repeat (first|with_reducible assumption|with_reducible refine DS.alloc ?_|with_reducible refine DS.drew ?_|((with_reducible refine DS.setCell ?_ ?_ ?_);rotate_left;(focus ((try simp);(try omega)));(focus ((try simp);(try omega)))))))).mono ?_;rintro _ w6 ⟨⟨kk,ee,rfl,_⟩,hd6,hg6⟩;have hG6:Gr g w w6:=gT (by (repeat (first|with_reducible assumption|with_reducible exact gR _ _|with_reducible refine gA ?_|with_reducible refine gD ?_|((with_reducible refine gS ?_ (.inr ?_));rotate_left;(focus ((try simp);(try omega))))))) hg6;have hsw6:=hg6.size;(try (simp at hsw6));have zz:=And.intro (grHp hg6 (b:=w3.heap.size) (by (try simp) <;> omega) (by assumption)) <| grHp hg6 (b:=w.heap.size) (by (try simp) <;> omega) (by assumption);(first|simp [go_sem,z_w3,z_w,l_w,l_w3] at zz|simp [go_sem] at zz|skip);(try clear z_w3 x_w3 f_w3 l_w3);(try clear z_w x_w f_w l_w);obtain ⟨z_w3,z_w⟩:=zz;obtain ⟨x_w3,f_w3,l_w3⟩:=bO z_w3;obtain ⟨x_w,f_w,l_w⟩:=bO z_w;have OW6:=WOwn.gr (WOwn.drew OW5) hg6 (by omega))|(go_at_call 51;refine bHit w6 (by exact zB) fun bk=>?_;refine (asked_own y i kk ee a1 a2 (some ⟨gh,0,none⟩) a4 c1 c2 c3 c4 _ _ OW6 hy).mono ?_;rintro _ w7 ⟨⟨u1,u2,u3,u4,rfl,uo⟩,hbw7⟩;have hsw7:=hbw7.size;(try simp at hsw7);have zz:=And.intro (hQ hbw7 (b:=w3.heap.size)) <| hQ hbw7 (b:=w.heap.size);(first|simp [go_sem,z_w3,z_w,l_w,l_w3] at zz|simp [go_sem] at zz|skip);(try clear z_w3 x_w3 f_w3 l_w3);(try clear z_w x_w f_w l_w);obtain ⟨z_w3,z_w⟩:=zz;obtain ⟨x_w3,f_w3,l_w3⟩:=bO z_w3;obtain ⟨x_w,f_w,l_w⟩:=bO z_w;have hKw7:Below w6.heap.size w6 w7:=bT bk hbw7;clear hbw7 bk);have hd7:=hd6.below hKw7;have hG7:=gB hG6 hKw7;have UU:=Lib.hid uo;obtain ⟨b1,b2,b3,b4,d1,d2,d3,d4,rfl,rfl,rfl,rfl,_⟩:=uo.opens)
        all_goals (go_wp2;go_roundw)
        all_goals first|(simp [intOf];omega;done)|skip
        all_goals (have A:=asked_right (k:=kk) (e:=ee) hy ht;have nu3:=UU.out.ne (b:=w3.heap.size) (by omega);have UL:=UU.out.lo (lo':=w.heap.size+1) (by omega);generalize (asked y i kk ee).1=y' at *)
        all_goals exact ⟨m - 1,y',_,_,_,_,by go_num,A.1,by rw [A.2.2];exact hN,by rw [A.2.2];omega,by (repeat (first|with_reducible assumption|with_reducible refine WOwn.alloc ?_ _|with_reducible refine WOwn.drew ?_|((with_reducible refine WOwn.store ?_ ?_ _);rotate_left;(focus (first|exact nu3))) )),nu3,by simp [go_sem, *],by simp [go_sem, *],by simp;omega,by (repeat (first|with_reducible assumption|with_reducible refine DS.alloc ?_|with_reducible refine DS.drew ?_|((with_reducible refine DS.setCell ?_ ?_ ?_);rotate_left;(focus ((try simp);(try omega)));(focus ((try simp);(try omega)))))),by (repeat (first|with_reducible assumption|with_reducible exact gR _ _|with_reducible refine gA ?_|with_reducible refine gD ?_|((with_reducible refine gS ?_ (.inr ?_));rotate_left;(focus ((try simp);(try omega))))))⟩
      · have hp1:((handAt y i).pos == 0)=false:=by simp [hp0]
        go_wp2_with fail;refine (l1Below_any B g 4  _ (by (repeat (first|with_reducible assumption|with_reducible refine DS.alloc ?_|with_reducible refine DS.drew ?_|((with_reducible refine DS.setCell ?_ ?_ ?_);rotate_left;(focus ((try simp);(try omega)));(focus ((try simp);(try omega)))))))  (by omega) (by omega)).mono ?_;rintro _ w6 ⟨⟨x6,rfl,h60,h61⟩,hdw6,hgw6⟩;have hGw6:Gr g w w6:=gT (by (repeat (first|with_reducible assumption|with_reducible exact gR _ _|with_reducible refine gA ?_|with_reducible refine gD ?_|((with_reducible refine gS ?_ (.inr ?_));rotate_left;(focus ((try simp);(try omega))))))) hgw6;have hlw6:=hdw6.lt;have hsw6:=hgw6.size;(try (simp at hsw6))
        have hsw6:=hgw6.size;(try (simp at hsw6));have zz:=And.intro (grHp hgw6 (b:=w3.heap.size) (by (try simp) <;> omega) (by assumption)) <| grHp hgw6 (b:=w.heap.size) (by (try simp) <;> omega) (by assumption);(first|simp [go_sem,z_w3,z_w,l_w,l_w3] at zz|simp [go_sem] at zz|skip);(try clear z_w3 x_w3 f_w3 l_w3);(try clear z_w x_w f_w l_w);obtain ⟨z_w3,z_w⟩:=zz;obtain ⟨x_w3,f_w3,l_w3⟩:=bO z_w3;obtain ⟨x_w,f_w,l_w⟩:=bO z_w
        have OW6:=OW5.gr hgw6 (by omega)
        go_wp2_with fail;refine (l1Once_any B g 3  _ (by (repeat (first|with_reducible assumption|with_reducible refine DS.alloc ?_|with_reducible refine DS.drew ?_|((with_reducible refine DS.setCell ?_ ?_ ?_);rotate_left;(focus ((try simp);(try omega)));(focus ((try simp);(try omega)))))))  (by omega) (by omega)).mono ?_;rintro _ w7 ⟨⟨y7,rfl⟩,hdw7,hgw7⟩;have hGw7:Gr g w w7:=gT (by (repeat (first|with_reducible assumption|with_reducible exact gR _ _|with_reducible refine gA ?_|with_reducible refine gD ?_|((with_reducible refine gS ?_ (.inr ?_));rotate_left;(focus ((try simp);(try omega))))))) hgw7;have hlw7:=hdw7.lt;have hsw7:=hgw7.size;(try (simp at hsw7))
        have hsw7:=hgw7.size;(try (simp at hsw7));have zz:=And.intro (grHp hgw7 (b:=w3.heap.size) (by (try simp) <;> omega) (by assumption)) <| grHp hgw7 (b:=w.heap.size) (by (try simp) <;> omega) (by assumption);(first|simp [go_sem,z_w3,z_w,l_w,l_w3] at zz|simp [go_sem] at zz|skip);(try clear z_w3 x_w3 f_w3 l_w3);(try clear z_w x_w f_w l_w);obtain ⟨z_w3,z_w⟩:=zz;obtain ⟨x_w3,f_w3,l_w3⟩:=bO z_w3;obtain ⟨x_w,f_w,l_w⟩:=bO z_w
        have OW7:=OW6.gr hgw7 (by omega)
        clear cpos lg
        cases y7
        · go_wp2_with fail;refine bHit w7 (by exact zB) fun bk=>?_;refine (alone_own y i (1+x6) a1 a2 (some ⟨gh,0,none⟩) a4 c1 c2 c3 c4 _ _ OW7 hy ht (by omega) (by omega)).mono ?_;rintro _ w8 ⟨⟨u1,u2,u3,u4,rfl,uo⟩,hbw8⟩;have hsw8:=hbw8.size;(try simp at hsw8);have zz:=And.intro (hQ hbw8 (b:=w3.heap.size)) <| hQ hbw8 (b:=w.heap.size);(first|simp [go_sem,z_w3,z_w,l_w,l_w3] at zz|simp [go_sem] at zz|skip);(try clear z_w3 x_w3 f_w3 l_w3);(try clear z_w x_w f_w l_w);obtain ⟨z_w3,z_w⟩:=zz;obtain ⟨x_w3,f_w3,l_w3⟩:=bO z_w3;obtain ⟨x_w,f_w,l_w⟩:=bO z_w;have hKw8:Below w7.heap.size w7 w8:=bT bk hbw8;clear hbw8 bk
          have hd8:=hdw7.below hKw8
          have hG8:=gB hGw7 hKw8
          have A:=alone_made (most:=(1+x6)) hy ht (by omega) (by omega)
          have AN:=alone_wn (most:=(1+x6)) hy ht (by omega) (by omega) hN
          have UU:=Lib.hid uo
          have ht2:taskOk (alone y i (1+x6)).1 i=true:=by unfold taskOk at ht ⊢;rw [A.2.1];exact ht
          obtain ⟨ya,yb,yc⟩:=A
          generalize (alone y i (1+x6)).1=y' at *
          obtain ⟨b1,b2,b3,b4,d1,d2,d3,d4,rfl,rfl,rfl,rfl,_⟩:=uo.opens
          have nu3:=UU.out.ne (b:=w3.heap.size) (by omega)
          have UL:=UU.out.lo (lo':=w.heap.size+1) (by omega)
          clear yb
          go_wp2_with fail;refine (l1Once_any B g 10  _ (by (repeat (first|with_reducible assumption|with_reducible refine DS.alloc ?_|with_reducible refine DS.drew ?_|((with_reducible refine DS.setCell ?_ ?_ ?_);rotate_left;(focus ((try simp);(try omega)));(focus ((try simp);(try omega)))))))  (by omega) (by omega)).mono ?_;rintro _ w9 ⟨⟨y9,rfl⟩,hdw9,hgw9⟩;have hGw9:Gr g w w9:=gT (by (repeat (first|with_reducible assumption|with_reducible exact gR _ _|with_reducible refine gA ?_|with_reducible refine gD ?_|((with_reducible refine gS ?_ (.inr ?_));rotate_left;(focus ((try simp);(try omega))))))) hgw9;have hlw9:=hdw9.lt;have hsw9:=hgw9.size;(try (simp at hsw9))
          have hgl:g<w.heap.size+1:=by omega
          have OW9:WOwn w9 (w.heap.size+1) (.slice b1 y'.ch.cells.length d1) (.slice b2 y'.ch.words.length d2) (.slice b3 y'.hands.length d3) (.slice b4 y'.deals.length d4) y':=WOwn.gr (by (repeat (first|with_reducible assumption|with_reducible refine WOwn.alloc ?_ _|with_reducible refine WOwn.drew ?_|((with_reducible refine WOwn.store ?_ ?_ _);rotate_left;(focus (first|exact nu3))) ))) hgw9 hgl
          have t_w3:hp w9 w3.heap.size=some (.cells #[.int .i64 y'.ch.cap,.int .i64 y'.ch.sent,.int .i64 y'.ch.got,.int .i64 y'.ch.fin,.slice b1 y'.ch.cells.length d1,.slice b2 y'.ch.words.length d2,.slice b3 y'.hands.length d3,.slice b4 y'.deals.length d4,.int .i64 y'.now] 74):=(grHp hgw9 (by simp;omega) mg1).trans (by simp [go_sem, *])
          have t_w:hp w9 w.heap.size=some (.cells #[.int .i64 0,.int .i64 0,.int .i64 0,.int .i64 0,.slice none 0 0,.slice none 0 0,.slice none 0 0,.slice none 0 0,.int .i64 0] 74):=(grHp hgw9 (by simp;omega) mg0).trans (by simp [go_sem, *])
          have hs9:=hgw9.size
          (try simp at hs9)
          clear x_w x_w3 f_w f_w3 z_w z_w3 l_w l_w3
          have l_w:w.heap.size<w9.heap.size:=by omega
          have l_w3:w3.heap.size<w9.heap.size:=by omega
          have x_w:∀ o,w9.cell? ⟨w.heap.size,o,none⟩=_:=fun o=>cell_of_row w9 w.heap.size o _ _ _ t_w
          have x_w3:∀ o,w9.cell? ⟨w3.heap.size,o,none⟩=_:=fun o=>cell_of_row w9 w3.heap.size o _ _ _ t_w3
          have f_w:∀ o,w9.frozen? ⟨w.heap.size,o,none⟩=false:=heap_frozen t_w
          have f_w3:∀ o,w9.frozen? ⟨w3.heap.size,o,none⟩=false:=heap_frozen t_w3
          have z_w:=t_w
          have z_w3:=t_w3
          clear t_w t_w3 hgw9
          cases y9
          · go_wp2
            go_roundw
            case rel=>exact ⟨m - 1,y',_,_,_,_,by go_num,ya,AN,by omega,OW9,nu3,z_w3,z_w,by omega,by (repeat (first|with_reducible assumption|with_reducible refine DS.alloc ?_|with_reducible refine DS.drew ?_|((with_reducible refine DS.setCell ?_ ?_ ?_);rotate_left;(focus ((try simp);(try omega)));(focus ((try simp);(try omega)))))),by (repeat (first|with_reducible assumption|with_reducible exact gR _ _|with_reducible refine gA ?_|with_reducible refine gD ?_|((with_reducible refine gS ?_ (.inr ?_));rotate_left;(focus ((try simp);(try omega))))))⟩
            case measure=>simp [intOf];omega
          · obtain ⟨e1,_,e3⟩:=stopped_right ya ht2
            have SN:=stopped_wn ya ht2 AN
            have yd:(stopped y' i).1.ch.words.length+(m - 1)≤37:=by omega
            have hST:=stopped_own y' i b1 b2 b3 b4 d1 d2 d3 d4 _ _ OW9 ya
            clear e3
            generalize (stopped y' i).1=y'' at *
            go_wp2_with fail;refine bHit w9 (by exact zB) fun bk=>?_;refine (hST).mono ?_;rintro _ w10 ⟨⟨q1,q2,q3,q4,rfl,qo⟩,hbw10⟩;have hsw10:=hbw10.size;(try simp at hsw10);have zz:=And.intro (hQ hbw10 (b:=w3.heap.size)) <| hQ hbw10 (b:=w.heap.size);(first|simp [go_sem,z_w3,z_w,l_w,l_w3] at zz|simp [go_sem] at zz|skip);(try clear z_w3 x_w3 f_w3 l_w3);(try clear z_w x_w f_w l_w);obtain ⟨z_w3,z_w⟩:=zz;obtain ⟨x_w3,f_w3,l_w3⟩:=bO z_w3;obtain ⟨x_w,f_w,l_w⟩:=bO z_w;have hKw10:Below w9.heap.size w9 w10:=bT bk hbw10;clear hbw10 bk
            have hd10:=hdw9.below hKw10
            have hG10:=gB hGw9 hKw10
            have QO:=Lib.hid qo
            obtain ⟨p1,p2,p3,p4,r1,r2,r3,r4,rfl,rfl,rfl,rfl,_⟩:=qo.opens
            have nq3:=QO.out.ne (b:=w3.heap.size) (by omega)
            have QL:=QO.out.lo (lo':=w.heap.size+1) (by omega)
            go_wp2
            go_roundw
            case rel=>exact ⟨m - 1,y'',_,_,_,_,by go_num,e1,SN,yd,by (repeat (first|with_reducible assumption|with_reducible refine WOwn.alloc ?_ _|with_reducible refine WOwn.drew ?_|((with_reducible refine WOwn.store ?_ ?_ _);rotate_left;(focus (first|exact nq3))) )),nq3,by simp [go_sem, *],by simp [go_sem, *],by simp;omega,by (repeat (first|with_reducible assumption|with_reducible refine DS.alloc ?_|with_reducible refine DS.drew ?_|((with_reducible refine DS.setCell ?_ ?_ ?_);rotate_left;(focus ((try simp);(try omega)));(focus ((try simp);(try omega)))))),by (repeat (first|with_reducible assumption|with_reducible exact gR _ _|with_reducible refine gA ?_|with_reducible refine gD ?_|((with_reducible refine gS ?_ (.inr ?_));rotate_left;(focus ((try simp);(try omega))))))⟩
            case measure=>simp [intOf];omega
        · go_wp2_with fail;refine bHit w7 (by exact zB) fun bk=>?_;refine (alone_own y i 30 a1 a2 (some ⟨gh,0,none⟩) a4 c1 c2 c3 c4 _ _ OW7 hy ht (by omega) (by omega)).mono ?_;rintro _ w8 ⟨⟨u1,u2,u3,u4,rfl,uo⟩,hbw8⟩;have hsw8:=hbw8.size;(try simp at hsw8);have zz:=And.intro (hQ hbw8 (b:=w3.heap.size)) <| hQ hbw8 (b:=w.heap.size);(first|simp [go_sem,z_w3,z_w,l_w,l_w3] at zz|simp [go_sem] at zz|skip);(try clear z_w3 x_w3 f_w3 l_w3);(try clear z_w x_w f_w l_w);obtain ⟨z_w3,z_w⟩:=zz;obtain ⟨x_w3,f_w3,l_w3⟩:=bO z_w3;obtain ⟨x_w,f_w,l_w⟩:=bO z_w;have hKw8:Below w7.heap.size w7 w8:=bT bk hbw8;clear hbw8 bk
          have hd8:=hdw7.below hKw8
          have hG8:=gB hGw7 hKw8
          have A:=alone_made (most:=30) hy ht (by omega) (by omega)
          have AN:=alone_wn (most:=30) hy ht (by omega) (by omega) hN
          have UU:=Lib.hid uo
          have ht2:taskOk (alone y i 30).1 i=true:=by unfold taskOk at ht ⊢;rw [A.2.1];exact ht
          obtain ⟨ya,yb,yc⟩:=A
          generalize (alone y i 30).1=y' at *
          obtain ⟨b1,b2,b3,b4,d1,d2,d3,d4,rfl,rfl,rfl,rfl,_⟩:=uo.opens
          have nu3:=UU.out.ne (b:=w3.heap.size) (by omega)
          have UL:=UU.out.lo (lo':=w.heap.size+1) (by omega)
          clear yb
          go_wp2_with fail;refine (l1Once_any B g 10  _ (by (repeat (first|with_reducible assumption|with_reducible refine DS.alloc ?_|with_reducible refine DS.drew ?_|((with_reducible refine DS.setCell ?_ ?_ ?_);rotate_left;(focus ((try simp);(try omega)));(focus ((try simp);(try omega)))))))  (by omega) (by omega)).mono ?_;rintro _ w9 ⟨⟨y9,rfl⟩,hdw9,hgw9⟩;have hGw9:Gr g w w9:=gT (by (repeat (first|with_reducible assumption|with_reducible exact gR _ _|with_reducible refine gA ?_|with_reducible refine gD ?_|((with_reducible refine gS ?_ (.inr ?_));rotate_left;(focus ((try simp);(try omega))))))) hgw9;have hlw9:=hdw9.lt;have hsw9:=hgw9.size;(try (simp at hsw9))
          have hgl:g<w.heap.size+1:=by omega
          have OW9:WOwn w9 (w.heap.size+1) (.slice b1 y'.ch.cells.length d1) (.slice b2 y'.ch.words.length d2) (.slice b3 y'.hands.length d3) (.slice b4 y'.deals.length d4) y':=WOwn.gr (by (repeat (first|with_reducible assumption|with_reducible refine WOwn.alloc ?_ _|with_reducible refine WOwn.drew ?_|((with_reducible refine WOwn.store ?_ ?_ _);rotate_left;(focus (first|exact nu3))) ))) hgw9 hgl
          have t_w3:hp w9 w3.heap.size=some (.cells #[.int .i64 y'.ch.cap,.int .i64 y'.ch.sent,.int .i64 y'.ch.got,.int .i64 y'.ch.fin,.slice b1 y'.ch.cells.length d1,.slice b2 y'.ch.words.length d2,.slice b3 y'.hands.length d3,.slice b4 y'.deals.length d4,.int .i64 y'.now] 74):=(grHp hgw9 (by simp;omega) mg1).trans (by simp [go_sem, *])
          have t_w:hp w9 w.heap.size=some (.cells #[.int .i64 0,.int .i64 0,.int .i64 0,.int .i64 0,.slice none 0 0,.slice none 0 0,.slice none 0 0,.slice none 0 0,.int .i64 0] 74):=(grHp hgw9 (by simp;omega) mg0).trans (by simp [go_sem, *])
          have hs9:=hgw9.size
          (try simp at hs9)
          clear x_w x_w3 f_w f_w3 z_w z_w3 l_w l_w3
          have l_w:w.heap.size<w9.heap.size:=by omega
          have l_w3:w3.heap.size<w9.heap.size:=by omega
          have x_w:∀ o,w9.cell? ⟨w.heap.size,o,none⟩=_:=fun o=>cell_of_row w9 w.heap.size o _ _ _ t_w
          have x_w3:∀ o,w9.cell? ⟨w3.heap.size,o,none⟩=_:=fun o=>cell_of_row w9 w3.heap.size o _ _ _ t_w3
          have f_w:∀ o,w9.frozen? ⟨w.heap.size,o,none⟩=false:=heap_frozen t_w
          have f_w3:∀ o,w9.frozen? ⟨w3.heap.size,o,none⟩=false:=heap_frozen t_w3
          have z_w:=t_w
          have z_w3:=t_w3
          clear t_w t_w3 hgw9
          cases y9
          · go_wp2
            go_roundw
            case rel=>exact ⟨m - 1,y',_,_,_,_,by go_num,ya,AN,by omega,OW9,nu3,z_w3,z_w,by omega,by (repeat (first|with_reducible assumption|with_reducible refine DS.alloc ?_|with_reducible refine DS.drew ?_|((with_reducible refine DS.setCell ?_ ?_ ?_);rotate_left;(focus ((try simp);(try omega)));(focus ((try simp);(try omega)))))),by (repeat (first|with_reducible assumption|with_reducible exact gR _ _|with_reducible refine gA ?_|with_reducible refine gD ?_|((with_reducible refine gS ?_ (.inr ?_));rotate_left;(focus ((try simp);(try omega))))))⟩
            case measure=>simp [intOf];omega
          · obtain ⟨e1,_,e3⟩:=stopped_right ya ht2
            have SN:=stopped_wn ya ht2 AN
            have yd:(stopped y' i).1.ch.words.length+(m - 1)≤37:=by omega
            have hST:=stopped_own y' i b1 b2 b3 b4 d1 d2 d3 d4 _ _ OW9 ya
            clear e3
            generalize (stopped y' i).1=y'' at *
            go_wp2_with fail;refine bHit w9 (by exact zB) fun bk=>?_;refine (hST).mono ?_;rintro _ w10 ⟨⟨q1,q2,q3,q4,rfl,qo⟩,hbw10⟩;have hsw10:=hbw10.size;(try simp at hsw10);have zz:=And.intro (hQ hbw10 (b:=w3.heap.size)) <| hQ hbw10 (b:=w.heap.size);(first|simp [go_sem,z_w3,z_w,l_w,l_w3] at zz|simp [go_sem] at zz|skip);(try clear z_w3 x_w3 f_w3 l_w3);(try clear z_w x_w f_w l_w);obtain ⟨z_w3,z_w⟩:=zz;obtain ⟨x_w3,f_w3,l_w3⟩:=bO z_w3;obtain ⟨x_w,f_w,l_w⟩:=bO z_w;have hKw10:Below w9.heap.size w9 w10:=bT bk hbw10;clear hbw10 bk
            have hd10:=hdw9.below hKw10
            have hG10:=gB hGw9 hKw10
            have QO:=Lib.hid qo
            obtain ⟨p1,p2,p3,p4,r1,r2,r3,r4,rfl,rfl,rfl,rfl,_⟩:=qo.opens
            have nq3:=QO.out.ne (b:=w3.heap.size) (by omega)
            have QL:=QO.out.lo (lo':=w.heap.size+1) (by omega)
            go_wp2
            go_roundw
            case rel=>exact ⟨m - 1,y'',_,_,_,_,by go_num,e1,SN,yd,by (repeat (first|with_reducible assumption|with_reducible refine WOwn.alloc ?_ _|with_reducible refine WOwn.drew ?_|((with_reducible refine WOwn.store ?_ ?_ _);rotate_left;(focus (first|exact nq3))) )),nq3,by simp [go_sem, *],by simp [go_sem, *],by simp;omega,by (repeat (first|with_reducible assumption|with_reducible refine DS.alloc ?_|with_reducible refine DS.drew ?_|((with_reducible refine DS.setCell ?_ ?_ ?_);rotate_left;(focus ((try simp);(try omega)));(focus ((try simp);(try omega)))))),by (repeat (first|with_reducible assumption|with_reducible exact gR _ _|with_reducible refine gA ?_|with_reducible refine gD ?_|((with_reducible refine gS ?_ (.inr ?_));rotate_left;(focus ((try simp);(try omega))))))⟩
            case measure=>simp [intOf];omega
end Go.Proofs.YtkiingmgpobgnaaGreat
set_option linter.unusedSimpArgs false
set_option linter.unusedVariables false
namespace Go.Proofs.YtkiingmgpobgnaaGreat
open Go.RowKit
set_option linter.unusedSimpArgs false
attribute [local simp] bx_size
attribute [local go_sem ↓] zeroHand toLHand toVHand toSHand storeHandC
attribute [local go_sem] runSHand
theorem DS.box {w:World} {B g b:Nat} {vs:Array Value} (h:DS w B g) (hB:B≤b) (hn:g≠b):DS (setBox w b vs) B g:=h.keep (bx_heap_ne hn) (bBx (Below.refl _ _) hB)
end Go.Proofs.YtkiingmgpobgnaaGreat
set_option linter.unusedSimpArgs false
set_option linter.unusedVariables false
namespace Go.Proofs.YtkiingmgpobgnaaGreat
open Go.RowKit
theorem run_zeros {P:Program} (w:World) (t tn ty:TypeId) (base:Nat) (e:TypeId) (i:TypeInfo) (z:Value) (kn:IntKind) (size bytes:Nat) (ht:P.underlying t=some (.slice e)) (htn:P.underlying tn=some (.int kn)) (hi:P.info? e=some i) (hz:i.zero=some z)
    (hsize:i.size=size) (hby:i.bytes=bytes) (hzs:z.cells.size=size) (hsz:0<size) (v:Value) (n:Nat) (xs:List Value) (hown:w.ownsRow base e size v n xs)
    (m:Nat) (hm:0<m) (h1:∀ u ∈ (Builtin.zeroCells z.cells m).toList,u.oneCell'=true) (h63:n+m≤maxLen) (hbytes:(n+m)*bytes≤140737488355328) (hbase:base≤w.heap.size) (H:Nat) (hH:w.heap.size=H) :
    ∃ g cap w',(Builtin.append_ #[t,tn] ty #[v,.int kn m]).run P w=.ok (.slice (some ⟨g,0,none⟩) (n+m) cap) w'∧w'.ownsRow base e size (.slice (some ⟨g,0,none⟩) (n+m) cap) (n+m) (xs ++ (Builtin.zeroCells z.cells m).toList)∧w.grownBy w' v.ownBlock∧(v.ownBlock=some g∨g=H)∧g<w'.heap.size:=by
  subst hsize
  subst hby
  subst hH
  have hml:n+m≤9223372036854775807:=by simp only [maxLen] at h63;omega
  have hw:IntKind.i64.wrap (m:Int)=m:=by rw [IntKind.wrap_i64];omega
  have hneg:¬ ((m:Int)<0):=by omega
  have hmb:m*i.bytes≤140737488355328:=Nat.le_trans (Nat.mul_le_mul_right _ (by omega)) hbytes
  have h48i:¬ (281474976710656<(m:Int)*(i.bytes:Int)):=by
    rw [← Int.natCast_mul]
    omega
  have hns:¬ (m*i.size=0):=Nat.mul_ne_zero (by omega) (by omega)
  have hm0:m≠0:=by omega
  have hs0:i.size≠0:=by omega
  have hl:(Builtin.zeroCells z.cells m).toList.length=m*i.size:=by simp [size_zeroCells,hzs]
  have hlen:(xs ++ (Builtin.zeroCells z.cells m).toList).length=(n+m)*i.size:=by rw [List.length_append,hown.1,hl,Nat.add_mul]
  have h63n:¬ (9223372036854775807<((n:Int)+(m:Int))):=by omega
  have grown:∀ (old:Nat),old<n+m→∀ (row:Option Nat),
      (w.drew.alloc (.cells (xs.toArray ++ Builtin.zeroCells z.cells m ++ Builtin.zeroCells z.cells (grownCap w (n+m) old e - (n+m))) e)).ownsRow base e i.size
        (.slice (some ⟨w.heap.size,0,none⟩) (n+m) (grownCap w (n+m) old e)) (n+m) (xs ++ (Builtin.zeroCells z.cells m).toList) ∧
      w.grownBy (w.drew.alloc (.cells (xs.toArray ++ Builtin.zeroCells z.cells m ++ Builtin.zeroCells z.cells (grownCap w (n+m) old e - (n+m))) e)) row:=by
    intro old ho row
    have hge:=grownCap_ge w (n+m) old e
    have hcm:grownCap w (n+m) old e≤maxLen:=grownCap_le_maxLen w (n+m) old e h63
    refine ⟨⟨hlen,.inr ⟨w.heap.size,_,_,rfl,hbase,heap_alloc_new w.drew _,hge,hcm,?_,?_⟩⟩,⟨rfl,rfl,rfl,by simp,fun k hk _=>by rw [heap_alloc_old w.drew _ (show k<w.drew.heap.size from hk)];rfl⟩⟩
    · simp only [Array.size_append,List.size_toArray,size_zeroCells,hzs,hown.1,← Nat.add_mul]
      congr 1
      omega
    · simp only [Array.toList_append,List.append_assoc]
      rw [← List.append_assoc,← hlen]
      exact List.take_left
  have lt:∀ (old:Nat),w.heap.size<(w.drew.alloc (.cells (xs.toArray ++ Builtin.zeroCells z.cells m ++ Builtin.zeroCells z.cells (grownCap w (n+m) old e - (n+m))) e)).heap.size:=fun _=>by simp
  rcases hown.2 with ⟨rfl,rfl⟩|⟨g,cap,cur,rfl,hbg,hg,hnc,hcm,hcs,htake⟩
  · have hx:xs=[]:=List.eq_nil_of_length_eq_zero (by simpa using hown.1)
    subst hx
    have h48':¬ (281474976710656<Builtin.nextslicecap (0+m) 0*i.bytes):=by have:=growslice_fits (need:=0+m) (old:=0) (bytes:=i.bytes) (by omega) hbytes;omega
    have hgr:=grown 0 (by omega) (Value.ownBlock (.slice none 0 0))
    refine ⟨w.heap.size,_,_,?_,hgr.1,hgr.2,.inr rfl,lt 0⟩
    have h63':¬ (9223372036854775807<(m:Int)):=by omega
    simp only [Nat.zero_add] at h48' ⊢
    simp [Builtin.append_,run_underlying ht,run_underlying htn,sizeOf,typeInfo,zeroValue,hi,hz,asInt,asIntOf,hw,hneg,hm0,hs0,hns,h63',h48',h48i,Question.forced,run_firstCells_none,newRow,grownCap]
  · by_cases hroom:n+m≤cap
    · have hfit:n*i.size+(Builtin.zeroCells z.cells m).toList.length≤cur.size:=by rw [hl,hcs,← Nat.add_mul];exact Nat.mul_le_mul_right _ hroom
      have hst:=run_storeCells_at P g (n*i.size) e (Builtin.zeroCells z.cells m).toList 0 cur w hg (by simpa using hfit) h1
      simp only [Nat.add_zero] at hst
      refine ⟨g,cap,_,?_,⟨hlen,.inr ⟨g,cap,_,rfl,hbg,setRow_heap w g cur (cur.toList.take (n*i.size) ++ (Builtin.zeroCells z.cells m).toList ++ cur.toList.drop (n*i.size+(Builtin.zeroCells z.cells m).toList.length)).toArray e _ hg,hroom,hcm,?_,?_⟩⟩,⟨rfl,rfl,rfl,by simp,fun k _ hk=>setRow_other w g k _ (fun e=>hk (by simp [Value.ownBlock,e]))⟩,.inl rfl,?_⟩
      · simp [Builtin.append_,run_underlying ht,run_underlying htn,sizeOf,typeInfo,zeroValue,hi,hz,asInt,asIntOf,hw,hneg,hm0,hs0,hns,h48i,hroom,Addr.add_lit,hst]
      · simp only [List.size_toArray,List.length_append,List.length_take,List.length_drop,Array.length_toList]
        simp only [Array.length_toList] at hfit
        omega
      · rw [htake,← hlen]
        exact List.take_left
      · have:=(Array.getElem?_eq_some_iff.1 hg).1
        simpa using this
    · have holds:∀ j u,xs[j]?=some u→w.cell? ((⟨g,0,none⟩:Addr).add j)=some u:=hown.cells (g:=g) rfl
      have hfo:=run_firstCells_some (P:=P) w.drew i.size n ⟨g,0,none⟩ n cap xs hown.1 (by simpa using holds)
      have h48':¬ (281474976710656<Builtin.nextslicecap (n+m) cap*i.bytes):=by have:=growslice_fits (need:=n+m) (old:=cap) (bytes:=i.bytes) (by omega) hbytes;omega
      have hgr:=grown cap (by omega) (Value.ownBlock (.slice (some ⟨g,0,none⟩) n cap))
      refine ⟨w.heap.size,_,_,?_,hgr.1,hgr.2,.inr rfl,lt cap⟩
      simp [Builtin.append_,run_underlying ht,run_underlying htn,sizeOf,typeInfo,zeroValue,hi,hz,asInt,asIntOf,hw,hneg,hm0,hs0,hns,h63n,h48',h48i,hroom,Question.forced,hfo,newRow,grownCap]
/-- At a step of a region that draws. -/
theorem step_zeros {P:Program} (w:World) {ops:Array Oper} {o:Oper} {a:Act} {K:Act→World→Prop} {Q:Exit→Act→World→Prop} {E:Prop} (hgd:o.guard=none) (s x:Operand) (t tn:TypeId)
    (ho:o.op=.call { callee:=.builtin .append,args:=#[s,x],argTypes:=#[t,tn] })
    (base:Nat) (e:TypeId) (i:TypeInfo) (z:Value) (kn:IntKind) (size bytes:Nat) (ht:P.underlying t=some (.slice e)) (htn:P.underlying tn=some (.int kn)) (hi:P.info? e=some i) (hz:i.zero=some z)
    (hsize:i.size=size) (hby:i.bytes=bytes) (hzs:z.cells.size=size) (hsz:0<size) (v:Value) (n:Nat) (xs:List Value) (hs:a.eval s=v) (hown:w.ownsRow base e size v n xs)
    (m:Nat) (hx:a.eval x=.int kn m) (hm:0<m) (h1:∀ u ∈ (Builtin.zeroCells z.cells m).toList,u.oneCell'=true) (h63:n+m≤maxLen) (hbytes:(n+m)*bytes≤140737488355328) (hbase:base≤w.heap.size) (H:Nat) (hH:w.heap.size=H)
    (h:∀ g cap w',w'.ownsRow base e size (.slice (some ⟨g,0,none⟩) (n+m) cap) (n+m) (xs ++ (Builtin.zeroCells z.cells m).toList)→w.grownBy w' v.ownBlock→(v.ownBlock=some g∨g=H)→g<w'.heap.size→K (a.put o.dst (.slice (some ⟨g,0,none⟩) (n+m) cap)) w') :
    if Region.wanted o (yielded ops a.tmps)=true then Oper.wp P o a w K Q else E:=by
  have hw:Region.wanted o (yielded ops a.tmps)=true:=by simp [Region.wanted,hgd]
  rw [if_pos hw]
  obtain ⟨g,cap,w',hr,h2,h3,h4,h5⟩:=run_zeros (P:=P) w t tn o.type base e i z kn size bytes ht htn hi hz hsize hby hzs hsz v n xs hown m hm h1 h63 hbytes hbase H hH
  exact Lib.wp_append_run w s x t tn ho v _ hs hx _ w' hr (h g cap w' h2 h3 h4 h5)
/-- Zeros of numbers. -/
theorem zeros_ints (m:Nat):(Builtin.zeroCells (Value.int .i64 0).cells m).toList=ints (List.replicate m 0):=by
  unfold Builtin.zeroCells
  apply List.ext_getElem
  · simp [ints,Value.cells]
  · intro k h1 h2
    simp [ints,Value.cells,Nat.mod_one]
theorem OInts.zeros {w:World} {lo k:Nat} {v:Value} {l:List Int} (h:w.ownsRow lo 2 1 v (l.length+k) (ints l ++ (Builtin.zeroCells (Value.int .i64 0).cells k).toList)):OInts w lo v (l ++ List.replicate k 0):=by
  have e:ints (l ++ List.replicate k 0)=ints l ++ ints (List.replicate k 0):=by simp [ints]
  unfold OInts
  rw [e,List.length_append,List.length_replicate,← zeros_ints]
  exact h
end Go.Proofs.YtkiingmgpobgnaaGreat
