/-
  The draws of the laws: what each hands back is some value of its range, and only the cursor turns; the drawn bytes are at most 4096.
-/
import Derived.Test.YtffhjmepfojhnaaGreatR01
import Derived.IntWalk
import Derived.Test.YtffhjmepfojhnaaGreatR32
import Derived.Deep.RegionLaw
import Derived.Test.YtffhjmepfojhnaaGreatR31
import Derived.Test.YtffhjmepfojhnaaGreatR14
import Derived.Test.YtffhjmepfojhnaaGreatR09
set_option maxRecDepth 100000
set_option maxHeartbeats 4000000
set_option linter.unusedSimpArgs false
set_option linter.unusedVariables false
namespace Go.Proofs.YtffhjmepfojhnaaGreat
section
open Go.RowKit
theorem KP {w:World} {g n:Nat} {x:Option Obj} (h:w.heap[g]?=x):(w.drewN n).heap[g]?=x:=h
theorem jo {w:World} {g:Nat} {cs:Array Value} {t:TypeId} (h:w.heap[g]?=some (.cells cs t (0,0))) (j:Nat) (u:Value):(w.setCell ⟨g,j,none⟩ u).heap[g]?=some (.cells (cs.setIfInBounds j u) t (0,0)):=by
 simp [World.setCell,Array.getElem?_modify,h]
theorem o9 {w:World} {g:Nat} {cs:Array Value} {t:TypeId} (h:w.heap[g]?=some (.cells cs t (0,0))) (o:Nat):w.frozen? ⟨g,o,none⟩=false:=by
 simp [World.frozen?,h]
def KQ (m:Int) (r:Ending):Prop:=∃ x:Int,r=.returned (.int .i64 x)∧0≤x∧x≤m
theorem sM (x:Int) {n:Int} (hn:0<n):0≤x % n∧x % n≤n - 1:=by
 have:=Int.emod_nonneg x (show n≠0 by omega)
 have:=Int.emod_lt_of_pos x hn
 omega
end
section
open Go.RowKit
attribute [local simp] aC
attribute [local go_sem ↓] aB aL aM fe au
attribute [local go_sem] eB
end
section
open Go.RowKit
attribute [local simp] aC
attribute [local go_sem ↓] aB aL aM fe au
attribute [local go_sem] eB
theorem qN {cap tasks:Int} (h:dm cap 0 4=false∨dm tasks 1 6=false):jg cap tasks=(Wo.zero,false):=by
 unfold jg
 rcases h with h|h <;> simp [h]
theorem xN (n lo hi:Int):(dm n lo hi=true∧lo≤n∧n≤hi)∨dm n lo hi=false:=by
 cases h:dm n lo hi with
 | true=>left;simp [dm] at h;exact ⟨rfl,h.1,h.2⟩
 | false=>exact .inr rfl
end
section
open Go.RowKit
attribute [local simp] aC
attribute [local go_sem ↓] aB aL aM fe au
attribute [local go_sem] eB
theorem ED (n i j:Nat) (hi:i<n) (hj:j<14):fI (List.replicate n (aP 0 0)) i j=.int .i64 0:=by
 have e:(List.replicate n (aP 0 0)).getD i Ha.zero=Ha.zero:=by
  unfold List.getD;rw [List.getElem?_replicate,if_pos hi];rfl
 unfold fI
 rw [e]
 have h:j=0∨j=1∨j=2∨j=3∨j=4∨j=5∨j=6∨j=7∨j=8∨j=9∨j=10∨j=11∨j=12∨j=13:=by omega
 rcases h with rfl|rfl|rfl|rfl|rfl|rfl|rfl|rfl|rfl|rfl|rfl|rfl|rfl|rfl <;> rfl
theorem KR {w:World} {g n:Nat} (h:hp w g=some (.cells (Array.replicate (n*14) (.int .i64 0)) 49)):Row w g 49 n 14 (fI (List.replicate n (aP 0 0))) :=
 ⟨_,h,by simp,fun i j hi hj=>by rw [Array.getElem?_replicate,if_pos tO,ED n i j hi hj]⟩
theorem pI (cap tasks:Int) (w:World) (h:dm cap 0 4=false∨dm tasks 1 6=false) :
  Calls Tryz.prog 12 #[.int .i64 cap,.int .i64 tasks] w fun r w'=>iM w w' Wo.zero (.bool false) r:=by
 have hh:dm cap 0 4=false∨(dm cap 0 4=true∧decide (tasks<1)=true)∨(dm cap 0 4=true∧decide (tasks<1)=false∧decide (6<tasks)=true):=by
  cases h1:dm cap 0 4 with
  | false=>exact .inl rfl
  | true =>
   rw [h1] at h
   have h2:dm tasks 1 6=false:=by simpa using h
   simp [dm] at h2
   by_cases h3:tasks<1
   ·exact .inr (.inl ⟨rfl,by simp [h3]⟩)
   ·exact .inr (.inr ⟨rfl,by simp [h3],by simp;omega⟩)
 clear h
 rcases hh with h|⟨h,h2⟩|⟨h,h2,h3⟩
 all_goals
  go_enter Tryz.func12,Tryz.ntmps12
  go_wp2_with (go_at_call 45;refine (dX _ _ _).mono ?_;rintro _ _ ⟨rfl,rfl⟩)
  refine bodyPost_ret (v:=.tuple #[.agg #[.int .i64 0,.int .i64 0,.int .i64 0,.int .i64 0,.slice none 0 0,.slice none 0 0,.slice none 0 0,.slice none 0 0,.int .i64 0],.bool false]) (by simp [results,Tryz.results12,go_sem, *]) rfl ⟨⟨_,_,_,_,rfl,mK _ _⟩,by exact zB⟩
theorem wF (cap:Int) (n:Nat) (w:World) (h:dm cap 0 4=true) (h1:1≤n) (h6:n≤6) :
  Calls Tryz.prog 12 #[.int .i64 cap,.int .i64 n] w fun r w'=>JD w w' ⟨fE cap,List.replicate n (aP 0 0),[],0⟩ (.bool true) r:=by
 have t1:decide ((n:Int)<1)=false:=by simp;omega
 have t2:decide (6<(n:Int))=false:=by simp;omega
 have hcells:(fE cap).cells.length=40:=by simp [fE,h]
 have KS:(fE cap).words=[]:=by simp [fE,h]
 have HC:=Lib.hid hcells
 have HW:=Lib.hid KS
 clear hcells KS
 go_enter Tryz.func12,Tryz.ntmps12
 go_wp2_with (go_at_call 45;refine (dX _ _ _).mono ?_;rintro _ _ ⟨rfl,rfl⟩)
 refine ax w zB fun bb=>?_
 refine (Cc cap _).mono ?_
 rintro _ w1 ⟨⟨v1,v2,rfl,o1,o2,WB⟩,ah⟩
 have aW:Below w.heap.size w w1:=bT bb ah
 have ay:=ah.size;(try (simp at ay));have zz:=hQ ah (b:=w.heap.size);(first|(simp [go_sem,dw,dJ] at zz)|(simp [go_sem] at zz));(try clear dV eD);(try clear dw);have dw:=zz;clear zz;(try clear dJ);obtain ⟨dV,eD,dJ⟩:=bO dw
 clear ah bb
 replace o1:=New.more o1 (lo':=w.heap.size+1) (by simp)
 replace o2:=New.more o2 (lo':=w.heap.size+1) (by simp)
 obtain ⟨va,vc,rfl,_⟩:=o1.seg
 obtain ⟨vb,vd,rfl,_⟩:=o2.seg
 go_wp2_with fail
 refine ax w1 zB fun bk=>?_
 refine (fT 0 0 _).mono ?_
 rintro _ w2 ⟨rfl,hbw2⟩
 have eu:Below w1.heap.size w1 w2:=bT bk hbw2
 have bu:=hbw2.size;(try (simp at bu));have zz:=hQ hbw2 (b:=w.heap.size);(first|(simp [go_sem,dw,dJ] at zz)|(simp [go_sem] at zz));(try clear dV eD);(try clear dw);have dw:=zz;clear zz;(try clear dJ);obtain ⟨dV,eD,dJ⟩:=bO dw
 clear hbw2 bk
 go_wp2_with fail
 show Calls Tryz.prog _ _ (w2.alloc (.cells (Array.replicate 14 (.int .i64 0)) 49)) _
 generalize Cv:World.alloc w2 _=wa
 have hga:hp wa w2.heap.size=some (.cells (Array.replicate 14 (.int .i64 0)) 49):=by rw [← Cv];exact heap_alloc_new _ _
 have hKa:Below w2.heap.size w2 wa:=by rw [← Cv];exact aQ _ _
 clear Cv
 refine (Ez n w2.heap.size h1 h6 wa (fun j hj=>by rw [(bO hga).1 j,Array.getElem?_replicate,if_pos hj]) (bO hga).2.2).mono ?_
 rintro _ w3 ⟨⟨g,rfl,hlo,hg⟩,aO⟩
 have hsa:=hKa.size
 have O4:Below w1.heap.size w1 w3:=eu.trans ((hKa.mono bu).trans (aO.mono tO))
 have QQ:Below w.heap.size w w3:=bT aW O4
 have Sl:=dS dw (hKa.trans (aO.mono hsa))
 have lg:=(bO hg).2.2
 have gb:∀ i,(Value.slice va 0 0).ownBlock=some i→i≠g:=fun i e=>by
  have:=(New.lo' o1 i e).2
  omega
 have nb:(Value.slice vb 0 0).ownBlock=none:=by rw [← jN vb _ vd];exact WB
 replace o1:=New.below o1 O4
 replace o2:=New.below o2 O4
 have R3:=KR hg
 have gap:w1.heap.size≤g:=by omega
 clear dw dV eD dJ hga hKa aO eu
 obtain ⟨dV,eD,dJ⟩:=bO Sl
 go_wp2
 refine bodyPost_ret (v:=.tuple #[.agg #[.int .i64 (fE cap).cap,.int .i64 (fE cap).sent,.int .i64 (fE cap).got,.int .i64 (fE cap).fin,.slice va (fE cap).cells.length vc,.slice vb (fE cap).words.length vd,.slice (some ⟨g,0,none⟩) n n,.slice none 0 0,.int .i64 0],.bool true]) (by simp [results,Tryz.results12,go_sem, *]) rfl ?_
 generalize hw4:World.setCell _ _ _=w4
 have hgr:w3.grownBy w4 (some w.heap.size):=by rw [← hw4];exact zG
 have hB4:Below w.heap.size w w4:=by rw [← hw4];exact zB
 clear hw4
 have k1:=New.kept o1 hgr (.inr fun e=>by have:=(New.lt o1 e).1;omega)
 have k2:=New.kept o2 hgr (.inr fun e=>by have:=(New.lt o2 e).1;omega)
 have k3:Row w4 g 49 n 14 (fI (List.replicate n (aP 0 0))):=R3.of_block (hgr.block g lg (by simp;omega))
 have l3:=k3.lt
 have WC:New w4 w.heap.size (.slice (some ⟨g,0,none⟩) n n) n 14 (fI (List.replicate n (aP 0 0))):=k3.newS tO
 refine ⟨⟨va,vb,some ⟨g,0,none⟩,none,vc,vd,n,0,by simp [gK],⟨⟨New.more k1 tO,New.more k2 tO,by simpa using WC,.inl ⟨rfl,rfl⟩⟩,⟨fun i e=>(New.lo' k1 i e).2,fun i e=>(New.lo' k2 i e).2,fun i e=>by simp [Value.ownBlock] at e;omega,fun i e=>by simp [Value.ownBlock] at e⟩⟩,⟨fun i e=>⟨by rw [nb];exact nofun,fun e2=>by simp [Value.ownBlock] at e2;exact gb i e e2.symm,by simp [Value.ownBlock]⟩,fun i e=>by (rw [nb] at e;cases e),fun i e=>by simp [Value.ownBlock]⟩⟩,hB4⟩
theorem wG (cap tasks:Int) (w:World) :
  Calls Tryz.prog 12 #[.int .i64 cap,.int .i64 tasks] w fun r w'=>JD w w' (jg cap tasks).1 (.bool (jg cap tasks).2) r:=by
 rcases xN cap 0 4 with ⟨h,h0,h1⟩|h
 ·rcases xN tasks 1 6 with ⟨ht,t0,t1⟩|t
  ·obtain ⟨n,rfl⟩:∃ n:Nat,tasks=(n:Int):=⟨tasks.toNat,by omega⟩
   rw [show jg cap (n:Int)=(⟨fE cap,List.replicate n (aP 0 0),[],0⟩,true) by simp [jg,h,ht]]
   exact wF cap n w h tO tO
  ·rw [qN (.inr t)];exact (pI cap tasks w (.inr t)).mono fun _ _ h=>h.toW
 ·rw [qN (.inl h)];exact (pI cap tasks w (.inl h)).mono fun _ _ h=>h.toW
end
end Go.Proofs.YtffhjmepfojhnaaGreat
