/-
  The program's QuietIn: what it answers; lists of at most 1048576 elements that lie in memory.
-/
import Derived.Test.YtffhjmepfojhnaaGreatR35
import Derived.Test.YtffhjmepfojhnaaGreatR04
import Derived.Test.YtffhjmepfojhnaaGreatR34
import Derived.Test.YtffhjmepfojhnaaGreatR29
import Derived.Test.YtffhjmepfojhnaaGreatR01
set_option maxRecDepth 100000
set_option maxHeartbeats 4000000
set_option linter.unusedSimpArgs false
set_option linter.unusedVariables false
namespace Go.Proofs.YtffhjmepfojhnaaGreat
section
open Go.RowKit
attribute [local simp] aC
attribute [local go_sem ↓] aB aU aL bB aM bC aG aN au aF
def OE (B:Nat) (fs:List Nat) (i _j:Nat):Value:=.func (.func (fs.getD i 0)) #[.agg #[.pointer (some ⟨B,0,none⟩)]] #[]
def Pn (B:Nat) (fs:List Nat):List Value:=fs.map fun f=>.func (.func f) #[.agg #[.pointer (some ⟨B,0,none⟩)]] #[]
theorem FN (B:Nat) (fs:List Nat):∀ i j,i<fs.length→j<1→(Pn B fs)[i*1+j]?=some (OE B fs i j):=fun i j hi hj=>by
 have:j=0:=by omega
 subst this
 simp [Pn,OE,List.getD,hi]
theorem EK {w:World} {lo:Nat} {t:TypeId} {n k:Nat} {v:Value} {xs:List Value} {f:Nat→Nat→Value} (h:w.ownsRow lo t k v n xs) (hf:∀ i j,i<n→j<k→xs[i*k+j]?=some (f i j)):∃ (a:Option Addr) (cap:Nat),v=.slice a n cap∧Seg w w.heap.size a n k f∧(a=none→n=0∧cap=0):=by
 obtain ⟨a,cap,rfl,hs⟩:=qw h hf
 refine ⟨a,cap,rfl,hs,fun e=>?_⟩
 subst e
 rcases h.2 with ⟨e,h0⟩|⟨g,cap,cur,e,_⟩
 ·simp at e;exact ⟨h0,e.2⟩
 ·simp at e
def NN (w:World) (lo:Nat) (v:Value) (B:Nat) (fs:List Nat):Prop:=w.ownsRow lo 145 1 v fs.length (Pn B fs)
theorem NN.opens {w:World} {lo:Nat} {v:Value} {B:Nat} {fs:List Nat} (h:NN w lo v B fs):∃ (a:Option Addr) (cap:Nat),v=.slice a fs.length cap∧Seg w w.heap.size a fs.length 1 (OE B fs)∧(a=none→fs.length=0∧cap=0):=EK h (FN B fs)
theorem wM (B:Nat) (w:World):Calls Tryz.prog 77 #[.agg #[.pointer (some ⟨B,0,none⟩)]] w fun r' w'=>(∃ v,r'=.returned v∧NN w' w.heap.size v B [127,128])∧Below w.heap.size w w':=by
 go_enter Tryz.func77,Tryz.ntmps77
 go_wp2
 go_ret
 exact ⟨⟨_,rfl,qz (Cm _ _ _) rfl tO (by decide)⟩,by exact zB⟩
theorem I1 {A:Nat→Bool} {fs:List Nat} {k g:Nat} (hk:k<fs.length) (hc:fs.getD k 0=g) (e:(fs.take k).all A=true) (e1:A g=true):(fs.take (k+1)).all A=true:=by
 rw [List.take_add_one,List.getElem?_eq_getElem hk,List.all_append,e]
 simp [List.getD,List.getElem?_eq_getElem hk] at hc
 simp [hc,e1]
theorem EL (B:Nat) (fs:List Nat) (A:Nat→Bool) (d:Option Addr) (r:Nat) (w:World) (h:Seg w w.heap.size d fs.length 1 (OE B fs)) (m:fs.length≤1099511627776)
  (eg:∀ f ∈ fs,∀ args w,(callFunc f args).run Tryz.prog w=.ok (.enter f args) w)
  (HP:∀ f ∈ fs,∀ W:World,Below w.heap.size w W→Calls Tryz.prog f #[.agg #[.pointer (some ⟨B,0,none⟩)]] W fun r' w'=>r'=.returned (.bool (A f))∧Below W.heap.size W w') :
  Calls Tryz.prog 58 #[.slice d fs.length r] w fun r' w'=>r'=.returned (.bool (fs.all A))∧Below w.heap.size w w':=by
 replace HP:=Lib.hid HP
 have EG:=Lib.hid eg
 clear eg
 go_enter Tryz.func58,Tryz.ntmps58
 go_wp2_with fail
 go_loopw [4,7] (fun _ i wr=>∃ k:Nat,k≤fs.length∧i=.int .i64 k∧Hid ((fs.take k).all A=true)∧Below w.heap.size w wr) (fun _ i _=>fs.length - (intOf i).toNat)
 case atStart=>exact ⟨0,Nat.zero_le _,rfl,rfl,by exact zB⟩
 case round =>
  obtain ⟨k,hk,rfl,hall,hB⟩:=hrel
  by_cases hlt:k<fs.length
  ·obtain ⟨b3,o3,rfl,hb3,hc3⟩:∃ b o,d=some ⟨b,o,none⟩∧b<w.heap.size∧(∀ i j,i<fs.length→j<1→w.cell? ⟨b,o+i*1+j,none⟩=some (OE B fs i j)):=by
    rcases h with h0|h0
    ·omega
    ·exact h0
   have c2:wr.cell? ⟨b3,o3+k,none⟩=some (OE B fs k 0):=(hB.cell (p:=⟨b3,o3+k,none⟩) hb3).trans (by have:=hc3 k 0 hlt tO;simpa using this)
   clear hc3
   simp only [OE] at c2
   have hmem:fs.getD k 0 ∈ fs:=by simp [List.getD,List.getElem?_eq_getElem hlt]
   generalize hcg:fs.getD k 0=g at c2 hmem
   have HC:=Lib.hid hcg
   clear hcg
   have eg:=EG.out g hmem
   have HM:=Lib.hid hmem
   clear hmem
   have hk0:(0:Int)≤(k:Int):=by omega
   have hk1:(k:Int)<(fs.length:Int):=by omega
   cases hG:A g with
   | true =>
    go_wp2_with (go_at_fn g;refine (HP.out g HM.out wr hB).mono ?_;rintro _ w6 ⟨rfl,hb6⟩;rw [hG])
    go_roundw
    case rel=>exact ⟨k+1,by omega,by go_num,I1 hlt HC.out hall.out hG,bT hB hb6⟩
    case measure=>simp [intOf];omega
   | false =>
    go_wp2_with (go_at_fn g;refine (HP.out g HM.out wr hB).mono ?_;rintro _ w6 ⟨rfl,hb6⟩;rw [hG])
    go_ret
    exact ⟨bF (by symm;rw [List.all_eq_false];exact ⟨g,HM.out,by simp [hG]⟩),bT hB hb6⟩
  ·obtain rfl:k=fs.length:=by omega
   go_wp2
   go_ret
   exact ⟨bF (by have:=hall.out;rw [List.take_length] at this;rw [this]),hB⟩
def rG (x:Wo) (f:Nat):Bool:=if f=127 then bJ x else if f=128 then !x.hands.any (jk x.ch) else if f=109 then decide (((keptIn x.ch).length:Int)≤x.ch.cap) else if f=110 then (!x.hands.any (gN 1) || (((keptIn x.ch).length:Int) == x.ch.cap)) else (!x.hands.any (gN 2) || ((keptIn x.ch).length == 0 && !x.hands.any (gN 1)))
theorem I4:∀ f ∈ [127,128,109,110,111],∀ args w,(callFunc f args).run Tryz.prog w=.ok (.enter f args) w:=by
 intro f hf
 simp only [List.mem_cons,List.not_mem_nil,or_false] at hf;rcases hf with rfl|rfl|rfl|rfl|rfl
 ·exact enters_of Tryz.func127 (by kernel_rfl) rfl
 ·exact enters_of Tryz.func128 (by kernel_rfl) rfl
 ·exact enters_of Tryz.func109 (by kernel_rfl) rfl
 ·exact enters_of Tryz.func110 (by kernel_rfl) rfl
 ·exact enters_of Tryz.func111 (by kernel_rfl) rfl
theorem EM (x:Wo) (a b d e:Option Addr) (p q r v0 B:Nat) (w:World) (H:LB w B x a b d e p q r v0):∀ f ∈ [127,128,109,110,111],Calls Tryz.prog f #[.agg #[.pointer (some ⟨B,0,none⟩)]] w fun r' w'=>r'=.returned (.bool (rG x f))∧Below w.heap.size w w':=by
 intro f hf
 simp only [List.mem_cons,List.not_mem_nil,or_false] at hf;rcases hf with rfl|rfl|rfl|rfl|rfl
 ·exact wL x a b d e p q r v0 B w H
 ·exact zF x a b d e p q r v0 B w H
 ·exact Cn x a b d e p q r v0 B w H
 ·exact zI x a b d e p q r v0 B w H
 ·exact zJ x a b d e p q r v0 B w H
theorem zK {P:Ha→Bool} {hs:List Ha}:hs.any P=false↔∀ k,k<hs.length→P (hs.getD k Ha.zero)=false:=by
 rw [List.any_eq_false]
 constructor
 ·intro h k hk
  have:=h (hs[k]) (List.getElem_mem hk)
  simpa [List.getD,List.getElem?_eq_getElem hk] using this
 ·intro h y hy
  obtain ⟨k,hk,rfl⟩:=List.getElem_of_mem hy
  have:=h k hk
  simpa [List.getD,List.getElem?_eq_getElem hk] using this
theorem oC (x:Wo):∀ n,gJ x n=true↔∀ k,k<n→((dH x (k:Int)).pos == 0 || jR x k)=true
 | 0=>by simp [gJ]
 | n+1=>by
  have h:=oC x n
  constructor
  ·intro e k hk
   simp only [gJ,Bool.and_eq_true] at e
   by_cases e1:k=n
   ·subst e1;exact e.2
   ·exact h.1 e.1 k tO
  ·intro e
   simp only [gJ,Bool.and_eq_true]
   exact ⟨h.2 fun k hk=>e k tO,e n tO⟩
theorem FO (x:Wo) (k:Nat):jk x.ch (x.hands.getD k Ha.zero)=!((dH x (k:Int)).pos == 0 || jR x k):=by
 have e:dH x (k:Int)=x.hands.getD k Ha.zero:=by simp [dH]
 unfold jR jk gZ
 rw [e]
 generalize x.hands.getD k Ha.zero=h
 rw [Bool.not_or]
 rfl
theorem Ny (x:Wo):(!x.hands.any (jk x.ch))=gJ x x.hands.length:=by
 rw [Bool.eq_iff_iff,oC]
 simp only [Bool.not_eq_true']
 rw [zK]
 constructor
 ·intro h k hk
  have:=h k hk
  rw [FO] at this
  cases hh:((dH x (k:Int)).pos == 0 || jR x k) with
  | true=>rfl
  | false=>rw [hh] at this;exact Bool.noConfusion this
 ·intro h k hk
  rw [FO,h k hk]
  rfl
end
section
open Go.RowKit
attribute [local simp] aC
attribute [local go_sem ↓] aB aU aL bB aM bC aG aN au aF
theorem Nz:(Tryz.prog.info? 145).map (fun i=>(i.zero,i.size,i.bytes))=some (some .nilFunc,1,8):=by kernel_rfl
theorem zL (B:Nat) (w:World):Calls Tryz.prog 59 #[.agg #[.pointer (some ⟨B,0,none⟩)]] w fun r' w'=>(∃ v,r'=.returned v∧NN w' w.heap.size v B [127,128,109,110,111])∧Below w.heap.size w w':=by
 obtain ⟨i0,hi0,hz0,hz1,hz2⟩:=info_parts Nz
 go_enter Tryz.func59,Tryz.ntmps59
 go_wp2_with fail
 generalize lV:World.alloc w _=w5
 have Cw:hp w5 w.heap.size=some (.cells #[.pointer (some ⟨B,0,none⟩)] 97):=by rw [← lV];exact heap_alloc_new _ _
 have ll:Below w.heap.size w w5:=by rw [← lV];exact aQ _ _
 clear lV
 refine bI [[],[0],[],[2],[],[4],[],[6],[2,3,4,5,6,7],qB [8],qB [8,9]] [3,4,5,6,7,8,9,10,11,12,2] (fun l s wx=>(Below w5.heap.size w5 wx)∧(l 0=true→s 3=.agg #[.pointer (some ⟨B,0,none⟩)])∧(l 1=true→l 9=false→NN wx w5.heap.size (s 4) B [127,128])∧(l 2=true→s 5=.agg #[.pointer (some ⟨B,0,none⟩)])∧(l 3=true→s 6=.func (.func 109) #[.agg #[.pointer (some ⟨B,0,none⟩)]] #[])∧(l 4=true→s 7=.agg #[.pointer (some ⟨B,0,none⟩)])∧(l 5=true→s 8=.func (.func 110) #[.agg #[.pointer (some ⟨B,0,none⟩)]] #[])∧(l 6=true→s 9=.agg #[.pointer (some ⟨B,0,none⟩)])∧(l 7=true→s 10=.func (.func 111) #[.agg #[.pointer (some ⟨B,0,none⟩)]] #[])∧(l 8=true→l 9=false→NN wx w5.heap.size (s 11) B [109,110,111])∧(l 9=true→NN wx w5.heap.size (s 12) B [127,128,109,110,111])∧(l 10=true→NN wx w5.heap.size (s 2) B [127,128,109,110,111])) (by kernel_rfl) (by kernel_rfl) (by kernel_rfl) (fun s=>by (simp only [fill,fC,List.setIfInBounds_toArray,List.set_cons_zero,List.set_cons_succ];rfl)) (fun s=>⟨(Below.refl _ _).drew,nB,nB,nB,nB,nB,nB,nB,nB,nB,nB,nB⟩) ?_ ?_
 refine ⟨?_,?_,?_,?_,?_,?_,?_,?_,?_,?_,?_,trivial⟩;iterate 11 (intro l s wx hl hd hn hf K hK;rotate_left)
 ·intro l s w6 hall hf
  have hb6:Below w5.heap.size w5 w6:=hf.1
  have oR:=(jD hf).2.2.2 (hall 10 rfl)
  clear hf hall
  go_wp2
  go_ret
  exact ⟨⟨_,rfl,av oR ll.size⟩,ll.trans (hb6.mono ll.size)⟩
 ·have z:=dS Cw hf.out.1
  have OC:=(bO z).1 0
  go_simp
  refine hK.out (upd s 3 (.agg #[.pointer (some ⟨B,0,none⟩)])) _ _ (by simp [ae] <;> rfl) (kA (kX (fun _=>rfl) id) hf.out)
 ·have e0:=(hf.out.2.1 (hd 0 rfl))
  go_simp
  go_at_call 77
  refine (wM B _).mono ?_
  rintro _ wy ⟨⟨vk,rfl,ok⟩,hE⟩
  refine hK.out (upd s 4 (vk)) _ _ (by simp [ae,e0] <;> rfl) (kX (bT hf.out.1 hE) (kA (kX (fun _ _=>av ok (Below.size hf.out.1)) (kC (kB (kX (fun h=>fun h4=>own_below (((jD hf.out).2.1 h) h4) hE) (kX (nU (hn 9 rfl)) (fun _=>nU (hn 10 rfl)))))))) hf.out)
 ·have z:=dS Cw hf.out.1
  have OC:=(bO z).1 0
  go_simp
  refine hK.out (upd s 5 (.agg #[.pointer (some ⟨B,0,none⟩)])) _ _ (by simp [ae] <;> rfl) (kB (kA (kX (fun _=>rfl) id)) hf.out)
 ·have e2:=(hf.out.2.2.2.1 (hd 2 rfl))
  go_simp
  refine hK.out (upd s 6 (.func (.func 109) #[.agg #[.pointer (some ⟨B,0,none⟩)]] #[])) _ _ (by simp [ae,e2] <;> rfl) (kC (kX (fun _=>rfl) id) hf.out)
 ·have z:=dS Cw hf.out.1
  have OC:=(bO z).1 0
  go_simp
  refine hK.out (upd s 7 (.agg #[.pointer (some ⟨B,0,none⟩)])) _ _ (by simp [ae] <;> rfl) (kC (kA (kX (fun _=>rfl) id)) hf.out)
 ·have e4:=((jC hf.out).2.1 (hd 4 rfl))
  go_simp
  refine hK.out (upd s 8 (.func (.func 110) #[.agg #[.pointer (some ⟨B,0,none⟩)]] #[])) _ _ (by simp [ae,e4] <;> rfl) (kC (kB (kX (fun _=>rfl) id)) hf.out)
 ·have z:=dS Cw hf.out.1
  have OC:=(bO z).1 0
  go_simp
  refine hK.out (upd s 9 (.agg #[.pointer (some ⟨B,0,none⟩)])) _ _ (by simp [ae] <;> rfl) (kC (kB (kA (kX (fun _=>rfl) id))) hf.out)
 ·have e6:=((jC hf.out).2.2.2.1 (hd 6 rfl))
  go_simp
  refine hK.out (upd s 10 (.func (.func 111) #[.agg #[.pointer (some ⟨B,0,none⟩)]] #[])) _ _ (by simp [ae,e6] <;> rfl) (kD (kX (fun _=>rfl) id) hf.out)
 ·have e3:=(hf.out.2.2.2.2.1 (hd 3 rfl))
  have e5:=((jC hf.out).2.2.1 (hd 5 rfl))
  have e7:=((jD hf.out).1 (hd 7 rfl))
  go_simp
  refine hK.out (upd s 11 (.slice (some ⟨wx.heap.size,0,none⟩) 3 3)) _ _ (by simp [ae,e3,e5,e7] <;> rfl) (kX (bT hf.out.1 (aQ _ _)) (kA (kX (fun h=>fun h4=>own_below ((hf.out.2.2.1 h) h4) (aQ _ _)) (kC (kB (kX (fun _ _=>qz (heap_alloc_new _ _) rfl (Below.size hf.out.1) (by decide)) (kX (nU (hn 9 rfl)) (fun _=>nU (hn 10 rfl)))))))) hf.out)
 ·have JG:=hf.out.1
  have og:=(hf.out.2.2.1 (hd 1 rfl)) hl
  have ok:=((jD hf.out).2.1 (hd 8 rfl)) hl
  obtain ⟨ka,kc,ek,hks,kz⟩:=ok.opens
  refine oK rfl _ _ 95 rfl w5.heap.size 145 i0 _ 1 8 Tryz.underlying95 hi0 hz0 hz1 hz2 rfl (by decide) (s 4) 2 (Pn B [127,128]) rfl og ka 3 kc (Pn B [109,110,111]) ek kz rfl (Seg.news hks rfl (FN B [109,110,111])) (by simp [Pn,Value.oneCell']) (by decide) (by decide) (Below.size JG) ?_
  intro v' w' o' g'
  have Sn:Below w5.heap.size w5 w':=iE JG g' (Below.size JG) (fun q hq=>(og.lt q hq).1)
  refine hK.out (upd s 12 (v')) _ _ (by simp [ae,Act.put] <;> rfl) (kX (Sn) (kA (kX (fun _ h4=>nU h4 (show upd l 9 true 9=true from rfl)) (kC (kB (kX (fun _ h4=>nU h4 (show upd l 9 true 9=true from rfl)) (kX (fun _=>o') (fun _=>nU (hn 10 rfl)))))))) hf.out)
 ·go_simp
  refine hK.out (upd s 2 ((s 12))) _ _ (by simp [ae] <;> rfl) (kD (kB (kA (fun _=>fun _=>((jD hf.out).2.2.1 (hd 9 rfl))))) hf.out)
theorem I6 (x:Wo) (a b d e:Option Addr) (p q r s:Nat) (w:World) (h:iG w w.heap.size x a b d e) (z:kT x a b d e p q r s) (m:lJ x) :
  Calls Tryz.prog 18 #[xc x a b d e p q r s] w fun r' w'=>r'=.returned (.bool ([127,128,109,110,111].all (rG x)))∧Below w.heap.size w w':=by
 have HH:Hid (∀ W:World,Below w.heap.size w W→hp W w.heap.size=some (.cells #[.int .i64 x.ch.cap,.int .i64 x.ch.sent,.int .i64 x.ch.got,.int .i64 x.ch.fin,.slice a x.ch.cells.length p,.slice b x.ch.words.length q,.slice d x.hands.length r,.slice e x.deals.length s,.int .i64 x.now] 35)→LB W w.heap.size x a b d e p q r s):=fun W hb hz=>⟨hz,h.atQ hb,z,m⟩
 have EG:=Lib.hid I4
 have hsub:∀ f ∈ [127,128,109,110,111],f ∈ [127,128,109,110,111]:=by decide
 clear h z m
 go_enter Tryz.func18,Tryz.ntmps18
 go_wp2_with fail
 refine ax w zB fun bb=>?_
 have z0:=heap_alloc_new w (.cells #[.int .i64 x.ch.cap,.int .i64 x.ch.sent,.int .i64 x.ch.got,.int .i64 x.ch.fin,.slice a x.ch.cells.length p,.slice b x.ch.words.length q,.slice d x.hands.length r,.slice e x.deals.length s,.int .i64 x.now] 35)
 refine (zL w.heap.size _).mono ?_
 rintro _ w1 ⟨⟨v,rfl,ho⟩,hb1⟩
 have hB1:Below w.heap.size w w1:=bT bb hb1
 have HL:=HH.out w1 hB1 ((hb1.block w.heap.size (by simp)).trans z0)
 clear HH z0 bb hb1
 obtain ⟨da,dc,rfl,sg,_⟩:=ho.opens
 clear ho
 have HM:=Lib.hid (EL w.heap.size [127,128,109,110,111] (rG x) da dc w1 sg (by decide) (fun f hf=>EG.out f (hsub f hf)) (fun f hf W hb=>EM x a b d e p q r s w.heap.size W (HL.on hb) f (hsub f hf)))
 clear sg HL EG hsub
 go_wp2_with (go_at_call 58;refine HM.out.mono ?_;rintro _ w2 ⟨rfl,hb2⟩)
 go_ret
 exact ⟨bF (by simp only [List.all_cons,List.all_nil,Bool.and_true]),bT hB1 hb2⟩
theorem lU (x:Wo):∀ n (v:Int),v ∈ fU x n↔∃ k:Nat,k<n∧v=(k:Int)∧jR x k=true
 | 0,v=>by simp [fU]
 | n+1,v=>by
  have h:=lU x n v
  cases hb:jR x n with
  | true =>
   rw [fU,hb]
   simp only [if_true,List.mem_append,List.mem_singleton,h]
   constructor
   ·rintro (⟨k,h1,h2,h3⟩|rfl)
    ·exact ⟨k,by omega,h2,h3⟩
    ·exact ⟨n,by omega,rfl,hb⟩
   ·rintro ⟨k,h1,h2,h3⟩
    by_cases e:k=n
    ·subst e;exact .inr h2
    ·exact .inl ⟨k,by omega,h2,h3⟩
  | false =>
   rw [fU,hb]
   simp only [Bool.false_eq_true,if_false,List.append_nil,h]
   constructor
   ·rintro ⟨k,h1,h2,h3⟩
    exact ⟨k,by omega,h2,h3⟩
   ·rintro ⟨k,h1,h2,h3⟩
    by_cases e:k=n
    ·subst e;rw [hb] at h3;exact Bool.noConfusion h3
    ·exact ⟨k,by omega,h2,h3⟩
theorem FP {P:Int→Bool} {l:List Int}:((l.filter P).length == 0)=true↔∀ v ∈ l,P v=false:=by
 rw [beq_iff_eq,List.length_eq_zero_iff,List.filter_eq_nil_iff]
 simp
theorem mW (x:Wo) (k:Nat):dH x (k:Int)=x.hands.getD k Ha.zero:=by simp [dH]
theorem nO {x:Wo} (h:gJ x x.hands.length=true) {k:Nat} (hk:k<x.hands.length):jR x k=((x.hands.getD k Ha.zero).pos == 23):=by
 have h1:=(oC x _).1 h k hk
 cases hp:((x.hands.getD k Ha.zero).pos == 23) with
 | false=>unfold jR;rw [mW,hp];rfl
 | true =>
  rw [mW] at h1
  have:((x.hands.getD k Ha.zero).pos == 0)=false:=by simp at hp ⊢;omega
  rw [this] at h1
  exact h1
theorem wN {x:Wo} (h:bJ x=true) {k:Nat} (hk:k<x.hands.length):bW (x.hands.getD k Ha.zero)=true:=by
 simp only [bJ,Bool.and_eq_true] at h
 have:=List.all_eq_true.1 h.2.1 _ (List.getElem_mem hk)
 simp only [eH,Bool.and_eq_true] at this
 simpa [List.getD,List.getElem?_eq_getElem hk] using this.1
theorem Co {h:Ha} (e:bW h=true) (hp:(h.pos == 23)=true):h.code=1∨h.code=2:=by
 have h0:h.pos=23:=by simpa using hp
 simp [bW,qo,dO,h0] at e
 rcases e.1.2 with h1|h1
 ·exact .inl h1.1
 ·exact .inr h1.1
theorem OG {x:Wo} (hk:bJ x=true) (h:gJ x x.hands.length=true):(sN x (eU x) == 0)=!x.hands.any (gN 1):=by
 rw [show eU x=fU x x.hands.length by simp [eU,hk],Bool.eq_iff_iff,Bool.not_eq_true']
 unfold sN
 rw [FP,zK]
 constructor
 ·intro e k hk2
  unfold gN
  cases hp:((x.hands.getD k Ha.zero).pos == 23) with
  | false=>rfl
  | true =>
   have:=e (k:Int) ((lU x _ _).2 ⟨k,hk2,rfl,by rw [nO h hk2];exact hp⟩)
   rw [mW] at this
   rw [this];rfl
 ·intro e v hv
  obtain ⟨k,hk2,rfl,hb⟩:=(lU x _ _).1 hv
  have:=e k hk2
  rw [nO h hk2] at hb
  unfold gN at this
  rw [hb] at this
  rw [mW]
  exact this
theorem OH {x:Wo} (hk:bJ x=true) (h:gJ x x.hands.length=true):(zy x (eU x) == 0)=!x.hands.any (gN 2):=by
 rw [show eU x=fU x x.hands.length by simp [eU,hk],Bool.eq_iff_iff,Bool.not_eq_true']
 unfold zy
 rw [FP,zK]
 constructor
 ·intro e k hk2
  unfold gN
  cases hp:((x.hands.getD k Ha.zero).pos == 23) with
  | false=>rfl
  | true =>
   have:=e (k:Int) ((lU x _ _).2 ⟨k,hk2,rfl,by rw [nO h hk2];exact hp⟩)
   rw [mW] at this
   simp at this
   simp [this]
 ·intro e v hv
  obtain ⟨k,hk2,rfl,hb⟩:=(lU x _ _).1 hv
  have:=e k hk2
  rw [nO h hk2] at hb
  unfold gN at this
  rw [hb] at this
  rw [mW]
  have hc:=Co (wN hk hk2) hb
  generalize x.hands.getD k Ha.zero=y at *
  simp at this ⊢
  omega
theorem N7 (x:Wo):[127,128,109,110,111].all (rG x)=rF x:=by
 simp only [List.all_cons,List.all_nil,Bool.and_true]
 rw [show rG x 127=bJ x from rfl,show rG x 128=!x.hands.any (jk x.ch) from rfl,Ny,← Bool.and_assoc]
 show (quietIn x && (decide (((keptIn x.ch).length:Int)≤x.ch.cap) && ((!x.hands.any (gN 1) || (((keptIn x.ch).length:Int) == x.ch.cap)) && (!x.hands.any (gN 2) || ((keptIn x.ch).length == 0 && !x.hands.any (gN 1))))))=rF x
 unfold rF
 cases hq:quietIn x with
 | false=>rfl
 | true =>
  simp only [quietIn,Bool.and_eq_true] at hq
  rw [OG hq.1 hq.2,OH hq.1 hq.2]
theorem I7 (x:Wo) (a b d e:Option Addr) (p q r s:Nat) (w:World) (h:iG w w.heap.size x a b d e) (z:kT x a b d e p q r s) (m:lJ x) :
  Calls Tryz.prog 18 #[xc x a b d e p q r s] w fun r' w'=>r'=.returned (.bool (rF x))∧Below w.heap.size w w':=by
 have h1:=I6 x a b d e p q r s w h z m
 rw [N7] at h1
 exact h1
end
end Go.Proofs.YtffhjmepfojhnaaGreat
