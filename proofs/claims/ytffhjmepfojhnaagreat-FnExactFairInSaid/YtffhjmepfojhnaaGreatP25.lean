/-
  FnExactParkedIn, FnExactQuietIn and FnExactFairIn: each returns true for every input and turns nothing; no condition.
-/
import Derived.Test.YtffhjmepfojhnaaGreatP06
import Derived.Test.YtffhjmepfojhnaaGreatP24
import Derived.Test.YtffhjmepfojhnaaGreatP05
import Derived.Test.YtffhjmepfojhnaaGreatP20
import Derived.Test.YtffhjmepfojhnaaGreatP23
set_option maxRecDepth 100000
set_option maxHeartbeats 4000000
set_option linter.unusedSimpArgs false
set_option linter.unusedVariables false
namespace Go.Proofs.YtffhjmepfojhnaaGreat
section
open Go.RowKit
attribute [local simp] aI
attribute [local go_sem ↓] aH aU aM bz aN bB aA aK ax aB
theorem Lj:(Tryz.prog.info? 145).map (fun i=>(i.zero,i.size,i.bytes))=some (some .nilFunc,1,8):=by kernel_rfl
theorem xR (B:Nat) (w:World):Calls Tryz.prog 59 #[.agg #[.pointer (some ⟨B,0,none⟩)]] w fun r' w'=>(∃ v,r'=.returned v∧LK w' w.heap.size v B [127,128,109,110,111])∧Below w.heap.size w w':=by
 obtain ⟨i0,hi0,hz0,hz1,hz2⟩:=info_parts Lj
 go_enter Tryz.func59,Tryz.ntmps59
 go_wp2_with fail
 generalize kr:World.alloc w _=w5
 have Ba:hp w5 w.heap.size=some (.cells #[.pointer (some ⟨B,0,none⟩)] 97):=by rw [← kr];exact heap_alloc_new _ _
 have jA:Below w.heap.size w w5:=by rw [← kr];exact bE _ _
 clear kr
 refine bJ [[],[0],[],[2],[],[4],[],[6],[2,3,4,5,6,7],qB [8],qB [8,9]] [3,4,5,6,7,8,9,10,11,12,2] (fun l s wx=>(Below w5.heap.size w5 wx)∧(l 0=true→s 3=.agg #[.pointer (some ⟨B,0,none⟩)])∧(l 1=true→l 9=false→LK wx w5.heap.size (s 4) B [127,128])∧(l 2=true→s 5=.agg #[.pointer (some ⟨B,0,none⟩)])∧(l 3=true→s 6=.func (.func 109) #[.agg #[.pointer (some ⟨B,0,none⟩)]] #[])∧(l 4=true→s 7=.agg #[.pointer (some ⟨B,0,none⟩)])∧(l 5=true→s 8=.func (.func 110) #[.agg #[.pointer (some ⟨B,0,none⟩)]] #[])∧(l 6=true→s 9=.agg #[.pointer (some ⟨B,0,none⟩)])∧(l 7=true→s 10=.func (.func 111) #[.agg #[.pointer (some ⟨B,0,none⟩)]] #[])∧(l 8=true→l 9=false→LK wx w5.heap.size (s 11) B [109,110,111])∧(l 9=true→LK wx w5.heap.size (s 12) B [127,128,109,110,111])∧(l 10=true→LK wx w5.heap.size (s 2) B [127,128,109,110,111])) (by kernel_rfl) (by kernel_rfl) (by kernel_rfl) (fun s=>by (simp only [fill,gp,List.setIfInBounds_toArray,List.set_cons_zero,List.set_cons_succ];rfl)) (fun s=>⟨(Below.refl _ _).drew,nB,nB,nB,nB,nB,nB,nB,nB,nB,nB,nB⟩) ?_ ?_
 refine ⟨?_,?_,?_,?_,?_,?_,?_,?_,?_,?_,?_,trivial⟩;iterate 11 (intro l s wx hl hd hn hf K hK;rotate_left)
 ·intro l s w6 hall hf
  have hb6:Below w5.heap.size w5 w6:=hf.1
  have oR:=(jD hf).2.2.2 (hall 10 rfl)
  clear hf hall
  go_wp2
  go_ret
  exact ⟨⟨_,rfl,ay oR jA.size⟩,jA.trans (hb6.mono jA.size)⟩
 ·have z:=fC Ba hf.out.1
  have M7:=(bO z).1 0
  go_simp
  refine hK.out (upd s 3 (.agg #[.pointer (some ⟨B,0,none⟩)])) _ _ (by simp [ae] <;> rfl) (kA (kX (fun _=>rfl) id) hf.out)
 ·have e0:=(hf.out.2.1 (hd 0 rfl))
  go_simp
  go_at_call 77
  refine (nV B _).mono ?_
  rintro _ wy ⟨⟨vk,rfl,ok⟩,hE⟩
  refine hK.out (upd s 4 (vk)) _ _ (by simp [ae,e0] <;> rfl) (kX (bT hf.out.1 hE) (kA (kX (fun _ _=>ay ok (Below.size hf.out.1)) (kC (kB (kX (fun h=>fun h4=>own_below (((jD hf.out).2.1 h) h4) hE) (kX (nU (hn 9 rfl)) (fun _=>nU (hn 10 rfl)))))))) hf.out)
 ·have z:=fC Ba hf.out.1
  have M7:=(bO z).1 0
  go_simp
  refine hK.out (upd s 5 (.agg #[.pointer (some ⟨B,0,none⟩)])) _ _ (by simp [ae] <;> rfl) (kB (kA (kX (fun _=>rfl) id)) hf.out)
 ·have e2:=(hf.out.2.2.2.1 (hd 2 rfl))
  go_simp
  refine hK.out (upd s 6 (.func (.func 109) #[.agg #[.pointer (some ⟨B,0,none⟩)]] #[])) _ _ (by simp [ae,e2] <;> rfl) (kC (kX (fun _=>rfl) id) hf.out)
 ·have z:=fC Ba hf.out.1
  have M7:=(bO z).1 0
  go_simp
  refine hK.out (upd s 7 (.agg #[.pointer (some ⟨B,0,none⟩)])) _ _ (by simp [ae] <;> rfl) (kC (kA (kX (fun _=>rfl) id)) hf.out)
 ·have e4:=((jC hf.out).2.1 (hd 4 rfl))
  go_simp
  refine hK.out (upd s 8 (.func (.func 110) #[.agg #[.pointer (some ⟨B,0,none⟩)]] #[])) _ _ (by simp [ae,e4] <;> rfl) (kC (kB (kX (fun _=>rfl) id)) hf.out)
 ·have z:=fC Ba hf.out.1
  have M7:=(bO z).1 0
  go_simp
  refine hK.out (upd s 9 (.agg #[.pointer (some ⟨B,0,none⟩)])) _ _ (by simp [ae] <;> rfl) (kC (kB (kA (kX (fun _=>rfl) id))) hf.out)
 ·have e6:=((jC hf.out).2.2.2.1 (hd 6 rfl))
  go_simp
  refine hK.out (upd s 10 (.func (.func 111) #[.agg #[.pointer (some ⟨B,0,none⟩)]] #[])) _ _ (by simp [ae,e6] <;> rfl) (kD (kX (fun _=>rfl) id) hf.out)
 ·have e3:=(hf.out.2.2.2.2.1 (hd 3 rfl))
  have e5:=((jC hf.out).2.2.1 (hd 5 rfl))
  have e7:=((jD hf.out).1 (hd 7 rfl))
  go_simp
  refine hK.out (upd s 11 (.slice (some ⟨wx.heap.size,0,none⟩) 3 3)) _ _ (by simp [ae,e3,e5,e7] <;> rfl) (kX (bT hf.out.1 (bE _ _)) (kA (kX (fun h=>fun h4=>own_below ((hf.out.2.2.1 h) h4) (bE _ _)) (kC (kB (kX (fun _ _=>AL (heap_alloc_new _ _) rfl (Below.size hf.out.1) (by decide)) (kX (nU (hn 9 rfl)) (fun _=>nU (hn 10 rfl)))))))) hf.out)
 ·have LQ:=hf.out.1
  have og:=(hf.out.2.2.1 (hd 1 rfl)) hl
  have ok:=((jD hf.out).2.1 (hd 8 rfl)) hl
  obtain ⟨ka,kc,ek,hks,kz⟩:=ok.opens
  refine Gb rfl _ _ 95 rfl w5.heap.size 145 i0 _ 1 8 Tryz.underlying95 hi0 hz0 hz1 hz2 rfl (by decide) (s 4) 2 (MV B [127,128]) rfl og ka 3 kc (MV B [109,110,111]) ek kz rfl (Seg.news hks rfl (Er B [109,110,111])) (by simp [MV,Value.oneCell']) (by decide) (by decide) (Below.size LQ) ?_
  intro v' w' o' g'
  have QH:Below w5.heap.size w5 w':=lI LQ g' (Below.size LQ) (fun q hq=>(og.lt q hq).1)
  refine hK.out (upd s 12 (v')) _ _ (by simp [ae,Act.put] <;> rfl) (kX (QH) (kA (kX (fun _ h4=>nU h4 (show upd l 9 true 9=true from rfl)) (kC (kB (kX (fun _ h4=>nU h4 (show upd l 9 true 9=true from rfl)) (kX (fun _=>o') (fun _=>nU (hn 10 rfl)))))))) hf.out)
 ·go_simp
  refine hK.out (upd s 2 ((s 12))) _ _ (by simp [ae] <;> rfl) (kD (kB (kA (fun _=>fun _=>((jD hf.out).2.2.1 (hd 9 rfl))))) hf.out)
theorem Gc (x:Wo) (a b d e:Option Addr) (p q r s:Nat) (w:World) (h:gm w w.heap.size x a b d e) (z:iB x a b d e p q r s) (m:iZ x) :
  Calls Tryz.prog 18 #[zY x a b d e p q r s] w fun r' w'=>r'=.returned (.bool ([127,128,109,110,111].all (kF x)))∧Below w.heap.size w w':=by
 have HH:Hid (∀ W:World,Below w.heap.size w W→hp W w.heap.size=some (.cells #[.int .i64 x.ch.cap,.int .i64 x.ch.sent,.int .i64 x.ch.got,.int .i64 x.ch.fin,.slice a x.ch.cells.length p,.slice b x.ch.words.length q,.slice d x.hands.length r,.slice e x.deals.length s,.int .i64 x.now] 35)→LB W w.heap.size x a b d e p q r s):=fun W hb hz=>⟨hz,h.atQ hb,z,m⟩
 have EG:=Lib.hid vU
 have hsub:∀ f ∈ [127,128,109,110,111],f ∈ [127,128,109,110,111]:=by decide
 clear h z m
 go_enter Tryz.func18,Tryz.ntmps18
 go_wp2_with fail
 refine au w zB fun bb=>?_
 have z0:=heap_alloc_new w (.cells #[.int .i64 x.ch.cap,.int .i64 x.ch.sent,.int .i64 x.ch.got,.int .i64 x.ch.fin,.slice a x.ch.cells.length p,.slice b x.ch.words.length q,.slice d x.hands.length r,.slice e x.deals.length s,.int .i64 x.now] 35)
 refine (xR w.heap.size _).mono ?_
 rintro _ w1 ⟨⟨v,rfl,ho⟩,hb1⟩
 have hB1:Below w.heap.size w w1:=bT bb hb1
 have HL:=HH.out w1 hB1 ((hb1.block w.heap.size (by simp)).trans z0)
 clear HH z0 bb hb1
 obtain ⟨da,dc,rfl,sg,_⟩:=ho.opens
 clear ho
 have HM:=Lib.hid (sW w.heap.size [127,128,109,110,111] (kF x) da dc w1 sg (by decide) (fun f hf=>EG.out f (hsub f hf)) (fun f hf W hb=>sZ x a b d e p q r s w.heap.size W (HL.on hb) f (hsub f hf)))
 clear sg HL EG hsub
 go_wp2_with (go_at_call 58;refine HM.out.mono ?_;rintro _ w2 ⟨rfl,hb2⟩)
 go_ret
 exact ⟨aZ (by simp only [List.all_cons,List.all_nil,Bool.and_true]),bT hB1 hb2⟩
theorem kG (x:Wo):∀ n (v:Int),v ∈ eQ x n↔∃ k:Nat,k<n∧v=(k:Int)∧iU x k=true
 | 0,v=>by simp [eQ]
 | n+1,v=>by
  have h:=kG x n v
  cases hb:iU x n with
  | true =>
   rw [eQ,hb]
   simp only [if_true,List.mem_append,List.mem_singleton,h]
   constructor
   ·rintro (⟨k,h1,h2,h3⟩|rfl)
    ·exact ⟨k,by omega,h2,h3⟩
    ·exact ⟨n,by omega,rfl,hb⟩
   ·rintro ⟨k,h1,h2,h3⟩
    by_cases e:k=n
    ·subst e;exact .inr h2
    ·exact .inl ⟨k,by omega,h2,h3⟩
  | false =>
   rw [eQ,hb]
   simp only [Bool.false_eq_true,if_false,List.append_nil,h]
   constructor
   ·rintro ⟨k,h1,h2,h3⟩
    exact ⟨k,by omega,h2,h3⟩
   ·rintro ⟨k,h1,h2,h3⟩
    by_cases e:k=n
    ·subst e;rw [hb] at h3;exact Bool.noConfusion h3
    ·exact ⟨k,by omega,h2,h3⟩
theorem Eu {P:Int→Bool} {l:List Int}:((l.filter P).length == 0)=true↔∀ v ∈ l,P v=false:=by
 rw [beq_iff_eq,List.length_eq_zero_iff,List.filter_eq_nil_iff]
 simp
theorem lC (x:Wo) (k:Nat):dn x (k:Int)=x.hands.getD k Ha.zero:=by simp [dn]
theorem mi {x:Wo} (h:fV x x.hands.length=true) {k:Nat} (hk:k<x.hands.length):iU x k=((x.hands.getD k Ha.zero).pos == 23):=by
 have h1:=(nz x _).1 h k hk
 cases hp:((x.hands.getD k Ha.zero).pos == 23) with
 | false=>unfold iU;rw [lC,hp];rfl
 | true =>
  rw [lC] at h1
  have:((x.hands.getD k Ha.zero).pos == 0)=false:=by simp at hp ⊢;omega
  rw [this] at h1
  exact h1
theorem uV {x:Wo} (h:dU x=true) {k:Nat} (hk:k<x.hands.length):bF (x.hands.getD k Ha.zero)=true:=by
 simp only [dU,Bool.and_eq_true] at h
 have:=List.all_eq_true.1 h.2.1 _ (List.getElem_mem hk)
 simp only [eF,Bool.and_eq_true] at this
 simpa [List.getD,List.getElem?_eq_getElem hk] using this.1
theorem AX {h:Ha} (e:bF h=true) (hp:(h.pos == 23)=true):h.code=1∨h.code=2:=by
 have h0:h.pos=23:=by simpa using hp
 simp [bF,pW,dO,h0] at e
 rcases e.1.2 with h1|h1
 ·exact .inl h1.1
 ·exact .inr h1.1
theorem M9 {x:Wo} (hk:dU x=true) (h:fV x x.hands.length=true):(iy x (cB x) == 0)=!x.hands.any (gy 1):=by
 rw [show cB x=eQ x x.hands.length by simp [cB,hk],Bool.eq_iff_iff,Bool.not_eq_true']
 unfold iy
 rw [Eu,xQ]
 constructor
 ·intro e k hk2
  unfold gy
  cases hp:((x.hands.getD k Ha.zero).pos == 23) with
  | false=>rfl
  | true =>
   have:=e (k:Int) ((kG x _ _).2 ⟨k,hk2,rfl,by rw [mi h hk2];exact hp⟩)
   rw [lC] at this
   rw [this];rfl
 ·intro e v hv
  obtain ⟨k,hk2,rfl,hb⟩:=(kG x _ _).1 hv
  have:=e k hk2
  rw [mi h hk2] at hb
  unfold gy at this
  rw [hb] at this
  rw [lC]
  exact this
theorem MB {x:Wo} (hk:dU x=true) (h:fV x x.hands.length=true):(ja x (cB x) == 0)=!x.hands.any (gy 2):=by
 rw [show cB x=eQ x x.hands.length by simp [cB,hk],Bool.eq_iff_iff,Bool.not_eq_true']
 unfold ja
 rw [Eu,xQ]
 constructor
 ·intro e k hk2
  unfold gy
  cases hp:((x.hands.getD k Ha.zero).pos == 23) with
  | false=>rfl
  | true =>
   have:=e (k:Int) ((kG x _ _).2 ⟨k,hk2,rfl,by rw [mi h hk2];exact hp⟩)
   rw [lC] at this
   simp at this
   simp [this]
 ·intro e v hv
  obtain ⟨k,hk2,rfl,hb⟩:=(kG x _ _).1 hv
  have:=e k hk2
  rw [mi h hk2] at hb
  unfold gy at this
  rw [hb] at this
  rw [lC]
  have hc:=AX (uV hk hk2) hb
  generalize x.hands.getD k Ha.zero=y at *
  simp at this ⊢
  omega
theorem Ll (x:Wo):[127,128,109,110,111].all (kF x)=jB x:=by
 simp only [List.all_cons,List.all_nil,Bool.and_true]
 rw [show kF x 127=dU x from rfl,show kF x 128=!x.hands.any (iC x.ch) from rfl,Et,← Bool.and_assoc]
 show (quietIn x && (decide (((keptIn x.ch).length:Int)≤x.ch.cap) && ((!x.hands.any (gy 1) || (((keptIn x.ch).length:Int) == x.ch.cap)) && (!x.hands.any (gy 2) || ((keptIn x.ch).length == 0 && !x.hands.any (gy 1))))))=jB x
 unfold jB
 cases hq:quietIn x with
 | false=>rfl
 | true =>
  simp only [quietIn,Bool.and_eq_true] at hq
  rw [M9 hq.1 hq.2,MB hq.1 hq.2]
theorem Gd (x:Wo) (a b d e:Option Addr) (p q r s:Nat) (w:World) (h:gm w w.heap.size x a b d e) (z:iB x a b d e p q r s) (m:iZ x) :
  Calls Tryz.prog 18 #[zY x a b d e p q r s] w fun r' w'=>r'=.returned (.bool (jB x))∧Below w.heap.size w w':=by
 have h1:=Gc x a b d e p q r s w h z m
 rw [Ll] at h1
 exact h1
end
section
open Go.RowKit
attribute [local simp] aI
attribute [local go_sem ↓] aH aM aN kR ax
attribute [local go_sem] j5
theorem oC (x:Wo):∀ k v,v ∈ eQ x k→∃ j:Nat,v=(j:Int)∧j<k
 | 0,v,h=>by cases h
 | k+1,v,h=>by
  unfold eQ at h
  split at h
  ·rcases List.mem_append.1 h with h|h
   ·obtain ⟨j,e,hj⟩:=oC x k v h
    exact ⟨j,e,by omega⟩
   ·simp at h
    exact ⟨k,h,by omega⟩
  ·obtain ⟨j,e,hj⟩:=oC x k v h
   exact ⟨j,e,by omega⟩
theorem DD {x:Wo} {k:Nat} (hk:k<(cB x).length):∃ j:Nat,(cB x).getD k 0=(j:Int)∧j<x.hands.length:=by
 have hm:(cB x).getD k 0 ∈ cB x:=by simp [List.getD,hk]
 unfold cB at hm ⊢
 split at hm
 ·rename_i e;rw [if_pos e];exact oC x _ _ hm
 ·cases hm
theorem DF (x:Wo):(cB x).length≤x.hands.length:=by
 unfold cB
 split
 ·exact ky x _
 ·simp
theorem DI {x:Wo} {l:List Int} {k:Nat} {j:Int} (hk:k<l.length) (hc:l.getD k 0=j):iy x (l.take (k+1))=iy x (l.take k)+(if (dn x j).code == 1 then 1 else 0)∧ja x (l.take (k+1))=ja x (l.take k)+(if (dn x j).code == 1 then 0 else 1):=by
 unfold iy ja
 rw [ji l k 0 hk,hc,List.filter_append,List.filter_append,List.length_append,List.length_append]
 by_cases h:(dn x j).code=1 <;> simp [h]
theorem Gf (x:Wo) (l:List Int) (k:Nat):iy x (l.take k)≤k∧ja x (l.take k)≤k:=by
 have h:=List.length_filter_le (fun i=>(dn x i).code == 1) (l.take k)
 have h2:=List.length_filter_le (fun i=>!((dn x i).code == 1)) (l.take k)
 have:=List.length_take_le k l
 unfold iy ja
 omega
theorem AY (x:Wo) (a b d e:Option Addr) (p q r s:Nat) (w:World) (h1:eY w w.heap.size a x.ch.cells) (z1:a=none→p=0) (h2:eZ w w.heap.size b x.ch.words) (z2:b=none→q=0) (h3:Gh w w.heap.size d x.hands) (h4:Jj w w.heap.size e x.deals) (m1:x.ch.cells.length≤1099511627776) (m3:x.hands.length≤1099511627776) (m4:x.deals.length≤1099511627776) :
  Calls Tryz.prog 34 #[zY x a b d e p q r s] w fun r' w'=>r'=.returned (.bool (jB x))∧Below w.heap.size w w':=by
 have H1:=Lib.hid h1
 have H2:=Lib.hid h2
 have H3:=Lib.hid h3
 have H4:=Lib.hid h4
 have Z1:=Lib.hid z1
 have Z2:=Lib.hid z2
 clear h1 h2 h3 h4 z1 z2
 cases hk:quietIn x with
 | false =>
  have e0:jB x=false:=by simp [jB,hk]
  rw [e0]
  go_enter Tryz.func34,Tryz.ntmps34
  go_wp2_with fail;refine au w zB fun bb=>?_;refine (mh x a b d e p q r s _ (aT H1 bb) Z1.out (aT H2 bb) Z2.out (aT H3 bb) (aT H4 bb) m1 m3 m4).mono ?_;rintro _ w1 ⟨rfl,ag⟩;have aV:Below w.heap.size w w1:=bT bb ag;have ak:=ag.size;(try simp at ak);have zz:=hQ ag (b:=w.heap.size);(try simp [go_sem] at zz);(try clear bG di dC bV);have bG:=zz;clear zz;obtain ⟨di,dC,bV⟩:=bO bG;clear ag bb
  rw [hk]
  go_wp2
  go_ret
  exact ⟨rfl,by exact zB⟩
 | true =>
  have HE:Hid (jB x=(decide (((keptIn x.ch).length:Int)≤x.ch.cap) && ((iy x (cB x) == 0 || ((keptIn x.ch).length:Int) == x.ch.cap) && (ja x (cB x) == 0 || ((keptIn x.ch).length == 0 && iy x (cB x) == 0))))):=by simp [Hid,jB,hk]
  have Oa:=fun k hk=>DD (x:=x) (k:=k) hk
  have PL:=fun k j hk hc=>DI (x:=x) (l:=cB x) (k:=k) (j:=j) hk hc
  have PM:=Gf x (cB x)
  have Rf:=DF x
  have KK:=Lib.hid (AJ x.ch)
  have PK:=Lib.hid (nS x)
  go_enter Tryz.func34,Tryz.ntmps34
  go_wp2_with fail;refine au w zB fun bb=>?_;refine (mh x a b d e p q r s _ (aT H1 bb) Z1.out (aT H2 bb) Z2.out (aT H3 bb) (aT H4 bb) m1 m3 m4).mono ?_;rintro _ w1 ⟨rfl,ag⟩;have aV:Below w.heap.size w w1:=bT bb ag;have ak:=ag.size;(try simp at ak);have zz:=hQ ag (b:=w.heap.size);(try simp [go_sem] at zz);(try clear bG di dC bV);have bG:=zz;clear zz;obtain ⟨di,dC,bV⟩:=bO bG;clear ag bb
  rw [hk]
  generalize cB x=l at *
  generalize keptIn x.ch=kl at *
  go_wp2_with fail;refine au w zB fun bb=>?_;refine (KK.out a b p q _ (aT H1 bb) (aT H2 bb) m1).mono ?_;rintro _ w2 ⟨⟨vk,rfl,ok⟩,hbw2⟩;have dh:Below w.heap.size w w2:=bT bb hbw2;have aR:=hbw2.size;(try simp at aR);have zz:=hQ hbw2 (b:=w.heap.size);(first|simp [go_sem,bG,bV] at zz|simp [go_sem] at zz|skip);(try clear bG di dC bV);have bG:=zz;clear zz;obtain ⟨di,dC,bV⟩:=bO bG;clear hbw2 bb
  obtain ⟨ka,kc,rfl,_⟩:=ai.seg ok
  clear ok
  go_wp2_with fail;refine au w zB fun bb=>?_;refine (PK.out a b d e p q r s _ (aT H1 bb) Z1.out (aT H2 bb) Z2.out (aT H3 bb) (aT H4 bb) m1 m3 m4).mono ?_;rintro _ w3 ⟨⟨vl,rfl,ol⟩,aC⟩;have iG:Below w.heap.size w w3:=bT bb aC;have bM:=aC.size;(try simp at bM);have zz:=hQ aC (b:=w.heap.size);(first|simp [go_sem,bG,bV] at zz|simp [go_sem] at zz|skip);(try clear bG di dC bV);have bG:=zz;clear zz;obtain ⟨di,dC,bV⟩:=bO bG;clear aC bb
  obtain ⟨la,lc,rfl,hls⟩:=ai.seg ol
  clear ol
  have hB3:Below w.heap.size w w3:=by exact zB
  go_wp2
  go_loopw [5,6,7] (fun sv rv i wr=>∃ k:Nat,k≤l.length∧i=.int .i64 k∧sv=.int .i64 (iy x (l.take k))∧rv=.int .i64 (ja x (l.take k))∧Hid (eZ wr wr.heap.size la l)∧hp wr w.heap.size=some (.cells #[.int .i64 x.ch.cap,.int .i64 x.ch.sent,.int .i64 x.ch.got,.int .i64 x.ch.fin,.slice a x.ch.cells.length p,.slice b x.ch.words.length q,.slice d x.hands.length r,.slice e x.deals.length s,.int .i64 x.now] 35)∧w.heap.size<wr.heap.size∧Below w.heap.size w wr) (fun _ _ i _=>l.length - (intOf i).toNat)
  case atStart=>exact ⟨0,Nat.zero_le _,rfl,rfl,rfl,hls,bG,by omega,hB3⟩
  case round =>
   obtain ⟨k,hk,rfl,rfl,rfl,LS,bG,bV,hB⟩:=hrel
   clear di dC
   have di:∀ o,wr.cell? ⟨w.heap.size,o,none⟩=_:=fun o=>cell_of_row wr w.heap.size o _ _ _ bG
   have dC:∀ o,wr.frozen? ⟨w.heap.size,o,none⟩=false:=ny bG
   by_cases hlt:k<l.length
   ·have hk0:(0:Int)≤(k:Int):=by omega
    have hk1:(k:Int)<(l.length:Int):=by omega
    obtain ⟨j,ej,hj⟩:=Oa k hlt
    obtain ⟨b3,o3,rfl,hb3,hc3⟩:∃ b o,d=some ⟨b,o,none⟩∧b<w.heap.size∧(∀ i j,i<x.hands.length→j<14→w.cell? ⟨b,o+i*14+j,none⟩=some (gB x.hands i j)):=by
     rcases H3.out with h0|h0
     ·omega
     ·exact h0
    have c1:wr.cell? ⟨b3,o3+j*14+1,none⟩=some (.int .i64 (dn x (j:Int)).code):=(hB.cell (p:=⟨b3,o3+j*14+1,none⟩) hb3).trans ((hc3 j 1 hj tO).trans (by simp [gB,dn,aa,Array.getD]))
    clear hc3
    obtain ⟨lb,lo,rfl,hlb,hlc⟩:∃ b o,la=some ⟨b,o,none⟩∧b<wr.heap.size∧(∀ i j,i<l.length→j<1→wr.cell? ⟨b,o+i*1+j,none⟩=some (fP l i j)):=by
     rcases LS.out with h0|h0
     ·omega
     ·exact h0
    have c2:wr.cell? ⟨lb,lo+k,none⟩=some (.int .i64 (j:Int)):=by have:=hlc k 0 hlt tO;simp only [fP,Nat.mul_one,Nat.add_zero,ej] at this;exact this
    clear hlc
    have hj0:(0:Int)≤(j:Int):=by omega
    have hj1:(j:Int)<(x.hands.length:Int):=by omega
    obtain ⟨e1,e2⟩:=PL k j hlt ej
    obtain ⟨e3,e4⟩:=PM k
    by_cases hcode:(dn x (j:Int)).code=1
    ·rw [hcode] at c1
     rw [if_pos (by simp [hcode])] at e1 e2
     go_wp2_with fail
     go_region
     go_wp2
     go_roundw
     case rel=>exact ⟨k+1,by omega,by go_num,by rw [e1];go_num,by rw [e2];go_num,LS.out,bG,bV,by exact zB⟩
     case measure=>simp [intOf];omega
    ·have hcb:((dn x (j:Int)).code == 1)=false:=by simpa using hcode
     rw [if_neg (by simp [hcode])] at e1 e2
     go_wp2_with fail
     go_region
     go_wp2
     go_roundw
     case rel=>exact ⟨k+1,by omega,by go_num,by rw [e1];go_num,by rw [e2];go_num,LS.out,bG,bV,by exact zB⟩
     case measure=>simp [intOf];omega
   ·have:k=l.length:=by omega
    subst this
    rw [show l.take l.length=l from List.take_length] at *
    have HE2:=HE.out
    clear HE KK PK PL PM Oa
    generalize iy x l=sn at *
    generalize ja x l=rn at *
    generalize kl.length=kn at *
    replace HE2:=Lib.hid HE2
    go_wp2
    all_goals (go_ret;rw [HE2.out];refine ⟨aZ (Bool.eq_iff_iff.2 ?_),hB⟩;simp;omega)
end
section
open Go.ChangeShapes Go.WideShapes Go.ChangeAt Go.RowKit
theorem Jf (x:Wo) (m:iZ x) (a b d e:Option Addr) (p q r s:Nat) (w:World) (h:gm w w.heap.size x a b d e) (z:iB x a b d e p q r s) :
  Calls Tryz.prog 34 #[.agg (dP x (.slice a x.ch.cells.length p) (.slice b x.ch.words.length q) (.slice d x.hands.length r) (.slice e x.deals.length s))] w fun r' w'=>r'=.returned (.bool (jB x))∧Below w.heap.size w w' :=
 AY x a b d e p q r s w h.1 z.1 h.2.1 z.2.1 h.2.2.1 h.2.2.2 (by have:=m.1;omega) (by have:=m.2.2.1;omega) (by have:=m.2.2.2;omega)
theorem Jg (x:Wo) (m:iZ x) (a b d e:Option Addr) (p q r s:Nat) (w:World) (h:gm w w.heap.size x a b d e) (z:iB x a b d e p q r s) :
  Calls Tryz.prog 18 #[.agg (dP x (.slice a x.ch.cells.length p) (.slice b x.ch.words.length q) (.slice d x.hands.length r) (.slice e x.deals.length s))] w fun r' w'=>r'=.returned (.bool (jB x))∧Below w.heap.size w w' :=
 Gd x a b d e p q r s w h z m
namespace FnExactFairIn
theorem lifted (os:Os) (started:os.Started) (H:Type) (enc:TypeId × Value→H) :
  ReturnsInHanded {} Tryz.checked os 8 .any (Rows.fnExactFairInSpec.pre6 enc Tryz.prog Tryz.f8 Rows.fnExactFairInRow.domain false) (Rows.fnExactFairInSpec.post enc Tryz.prog Tryz.f8 false true false false):=by
 refine returnsInHanded_of_change (C:=Tryz.checked) own started (by kernel_rfl) Tryz.func8
  (ChangeSpec.witness6 (enc:=enc) (C:=Tryz.checked) false ⟨#[],#[.agg #[.int .i64 0,.int .i64 0,.int .i64 0,.int .i64 0,.slice none 0 0,.slice none 0 0,.slice none 0 0,.slice none 0 0,.int .i64 0]],[]⟩ 8 (by kernel_rfl) (by kernel_rfl) (by kernel_rfl) (by kernel_rfl)) ?_
 intro W base args ds gs before hval0 hW hcnd _
 have hval:∀ (j:Nat) t v,Tryz.f8.params[j]?=some t→args[j]?=some v→Value.okWide Tryz.prog W .any base t v:=hval0
 have hW':=hW
 obtain ⟨p,q,LH,hV,rfl,hfz,hnd⟩:=hW
 have hA:DataW.TrodAll enc Tryz.prog W 0 (fun _=>true) true Tryz.f8.params.toList args.toList ds p:=LH
 rw [Tryz.params8] at hA hval
 obtain ⟨v0,PI,d0,ds0,p0,q0,hargs,rfl,rfl,h0,r0⟩:=trodAll_cons hA
 obtain ⟨rfl,rfl,rfl⟩:=trodAll_nil r0
 obtain rfl:args=#[v0]:=by cases args;simp_all
 obtain ⟨rfl,rfl⟩:=trodVars_none hV
 have k0:=h0
 have NR:∀ x ∈ p0,x.block<W.heap.size:=by obtain ⟨m,hm⟩:=k0;exact DataW.trod_lt m _ _ _ hm
 obtain ⟨Dy,NS,sb0,NT,NU,NV,NW,NY,NZ,rfl,m0,S0⟩:=Dv (hval 0 68 v0 rfl rfl) h0
 clear LH hval0
 refine (qG Dy (jB Dy) NS sb0 NT NU NV NW NY NZ W S0 m0 (Jf Dy) (Jg Dy)).mono fun e W' ⟨he,LJ⟩=>?_
 subst he
 exact ⟨_,rfl,_,_,_,[],_,[],hW',trodAll_mk1 (shut_bool Tryz.underlying4 _),(trodAll_cons_mk (Below.trod laidOut (by kernel_rfl) (of_decide_eq_true (by kernel_rfl)) k0 LJ NR) trodAll_mk0),rfl,LJ.frame _,fun h=>by cases h⟩
theorem over:Rows.fnExactFairInRow.holds Tryz.pinned (OpenSpec.ofChange Rows.fnExactFairInSpec) :=
 OpenClaim.holds_of_wide 8 Tryz.f8 rfl rfl rfl rfl rfl rfl rfl ⟨rfl,rfl,rfl,rfl,rfl⟩ rfl rfl rfl rfl rfl (by kernel_rfl) Tryz.func8 (by kernel_rfl)
  (of_decide_eq_true (by kernel_rfl)) (by unfold Func.isWrapper;first|(rw [if_pos (by decide +kernel)];kernel_rfl)|(rw [if_neg (by decide +kernel)];exact ⟨rfl,rfl⟩))
  (fun os started H enc _=>lifted os started H enc)
end FnExactFairIn
theorem fnExactFairIn_proved:Rows.FnExactFairInSaid:=FnExactFairIn.over
end
section
end
end Go.Proofs.YtffhjmepfojhnaaGreat
