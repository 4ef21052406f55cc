/-
  Is a task of a world parked, and does it wait, of the reference model; lists lie in memory and hold at most 2 ^ 40 elements.
-/
import Derived.Test.YtffhjmepfojhnaaGreatP17
import Derived.Test.YtffhjmepfojhnaaGreatP19
import Derived.Test.YtffhjmepfojhnaaGreatP02
import Derived.Deep.AppendLies
import Derived.Test.YtffhjmepfojhnaaGreatP01
import Derived.IntWalk
import Derived.Laws.CopyOwn
import Derived.Test.YtffhjmepfojhnaaGreatP16
set_option maxRecDepth 100000
set_option maxHeartbeats 4000000
set_option linter.unusedSimpArgs false
set_option linter.unusedVariables false
namespace Go.Proofs.YtffhjmepfojhnaaGreat
section
open Go.RowKit
attribute [local simp] aI
attribute [local go_sem ↓] aH aM aN kR ax
attribute [local go_sem] j5
theorem nR (x:Wo) (i:Nat) (hi:i<x.hands.length) (a b d e:Option Addr) (p q r s:Nat) (w:World) (h1:eY w w.heap.size a x.ch.cells) (z1:a=none→p=0) (h2:eZ w w.heap.size b x.ch.words) (z2:b=none→q=0) (h3:Gh w w.heap.size d x.hands) (h4:Jj w w.heap.size e x.deals) (m1:x.ch.cells.length≤1099511627776) (m3:x.hands.length≤1099511627776) (m4:x.deals.length≤1099511627776) :
  Calls Tryz.prog 75 #[zY x a b d e p q r s,.int .i64 i] w fun r' w'=>r'=.returned (.bool (iU x i))∧Below w.heap.size w w':=by
 have H1:=Lib.hid h1
 have H2:=Lib.hid h2
 have H3:=Lib.hid h3
 have H4:=Lib.hid h4
 have Z1:=Lib.hid z1
 have Z2:=Lib.hid z2
 clear h1 h2 h3 h4 z1 z2
 obtain ⟨b3,o3,rfl,hb3,hc3⟩:∃ b o,d=some ⟨b,o,none⟩∧b<w.heap.size∧Hid (∀ i j,i<x.hands.length→j<14→w.cell? ⟨b,o+i*14+j,none⟩=some (gB x.hands i j)):=by
  rcases H3.out with h0|h0
  ·omega
  ·exact h0
 have Fv:∀ W:World,hp W b3=hp w b3→(oH (.pointer (some ⟨b3,o3+i*14,none⟩))).run Tryz.prog W=.ok (.agg (aa (dn x i))) W:=fun W e=>lV _ fun j hj=>by rw [show (aa (dn x i)).getD j (.int .i64 0)=gB x.hands i j by simp [gB,dn],← hc3.out i j hi hj];exact World.cell?_of_block e
 have hi0:(0:Int)≤(i:Int):=by omega
 have hi1:(i:Int)<(x.hands.length:Int):=by omega
 have T:=Lib.hid fun a b p q W y1 y2 y3 y4=>Dm (gM x.ch (dn x i)) x.ch (dn x i) a b p q W y1 y2 y3 y4 (fun a b p q W y1 y2 y3 y4=>FT x.ch (dn x i) a b p q W y1 y2 y3 y4)
 have QW:b3<w.heap.size+1:=by omega
 have MH:b3≠w.heap.size:=by omega
 have c0:w.cell? ⟨b3,o3+i*14,none⟩=some (.int .i64 (dn x i).pos):=(hc3.out i 0 hi tO).trans (by simp [gB,dn,aa,Array.getD])
 unfold iU
 by_cases hps:(dn x (i:Int)).pos=23
 ·rw [hps] at c0
  go_enter Tryz.func75,Tryz.ntmps75
  go_wp2_with fail
  go_region_held3 (fun w'=>w'.cell? ⟨w.heap.size,0,none⟩=some (.int .i64 x.ch.cap)∧w'.cell? ⟨w.heap.size,1,none⟩=some (.int .i64 x.ch.sent)∧w'.cell? ⟨w.heap.size,2,none⟩=some (.int .i64 x.ch.got)∧w'.cell? ⟨w.heap.size,3,none⟩=some (.int .i64 x.ch.fin)∧w'.cell? ⟨w.heap.size,4,none⟩=some (.slice a x.ch.cells.length p)∧w'.cell? ⟨w.heap.size,5,none⟩=some (.slice b x.ch.words.length q)∧w'.cell? ⟨w.heap.size,6,none⟩=some (.slice (some ⟨b3,o3,none⟩) x.hands.length r)∧hp w' b3=hp w b3∧w'.cell? ⟨b3,o3+i*14,none⟩=some (.int .i64 23))
   (first|(simp [*,go_sem]))
   (first|(go_at_call 126;refine (T.out a b p q _ ((H1.out.below zB).more tS) Z1.out ((H2.out.below zB).more tS) Z2.out).mono ?_;rintro _ w2 ⟨rfl,hb2⟩;have hB2:Below w.heap.size w w2:=bT zB hb2;have xb:=fun o=>hb2.cell (p:=⟨w.heap.size,o,none⟩) (by simp);(simp [go_sem] at xb);have zb:hp w2 b3=hp w b3:=hB2.block b3 hb3;have cb:=hB2.cell (p:=⟨b3,o3+i*14,none⟩) hb3;rw [c0] at cb))
  all_goals go_wp2
  all_goals exact bodyPost_ret (v:=.bool (eH (gM x.ch (dn x i)))) (by simp [results,Tryz.results75,go_sem]) rfl ⟨by simp [hps],hB2⟩
 ·have hpb:((dn x (i:Int)).pos == 23)=false:=by simpa using hps
  go_enter Tryz.func75,Tryz.ntmps75
  go_wp2_with fail
  go_region
  go_wp2
  go_ret
  exact ⟨by simp [hps],by exact zB⟩
end
section
open Go.RowKit
theorem LA (w:World) (x:Value) (t:TypeId):∀ j u,[x][j]?=some u→(w.alloc (.cells #[x] t)).cell? ((⟨w.heap.size,0,none⟩:Addr).add j)=some u:=by
 intro j u h
 have hj:j<1:=(List.getElem?_eq_some_iff.1 h).1
 have:j=0:=by omega
 subst this
 simp [Addr.add] at h ⊢;exact h
theorem nu (st:Int) (c:C3):∀ (l:List C3) (n:Nat),iD st n (l ++ [c])=iD st n l ++ (if c.s == st then [((n+l.length:Nat):Int)] else [])
 | [],n=>by simp [iD]
 | d :: l,n=>by
  have h:=nu st c l (n+1)
  have e:n+1+l.length=n+(d :: l).length:=by simp;omega
  rw [e] at h
  simp only [List.cons_append,iD]
  split <;> simp [h]
theorem mf (st:Int):∀ (l:List C3) (n:Nat),(iD st n l).length≤l.length
 | [],n=>by simp [iD]
 | d :: l,n=>by
  have h:=mf st l (n+1)
  simp only [iD]
  split <;> simp <;> omega
def kW (cells:List C3) (st:Int) (k:Nat):List Int:=iD st 0 (cells.take k)
theorem Dn (cells:List C3) (st:Int):kW cells st 0=[]:=by simp [kW,iD]
theorem sS {cells:List C3} {st:Int} {k:Nat} {c:C3} (hk:k<cells.length) (hc:cells.getD k ⟨0,0,0⟩=c) (h:(c.s == st)=true):kW cells st (k+1)=kW cells st k ++ [(k:Int)]:=by
 unfold kW
 rw [lF cells k hk,hc,nu,if_pos h,List.length_take_of_le tO];simp
theorem xG {cells:List C3} {st:Int} {k:Nat} {c:C3} (hk:k<cells.length) (hc:cells.getD k ⟨0,0,0⟩=c) (h:(c.s == st)=false):kW cells st (k+1)=kW cells st k:=by
 unfold kW
 rw [lF cells k hk,hc,nu,h];simp
theorem AA (c:Ch) (st:Int):kW c.cells st c.cells.length=tF c st:=by simp [kW,tF]
theorem sU (cells:List C3) (st:Int) (k:Nat):(kW cells st k).length≤k:=by
 have h:=mf st (cells.take k) 0
 have:=List.length_take_le k cells
 unfold kW;omega
theorem IY (c:Ch) (st:Int) (a b:Option Addr) (p q:Nat) (w:World) (h1:eY w w.heap.size a c.cells) (hm:c.cells.length≤1099511627776) :
  Calls Tryz.prog 113 #[.agg #[.int .i64 c.cap,.int .i64 c.sent,.int .i64 c.got,.int .i64 c.fin,.slice a c.cells.length p,.slice b c.words.length q],.int .i64 st] w fun r w'=>(∃ v,r=.returned v∧ai w' w.heap.size v (tF c st))∧Below w.heap.size w w':=by
 obtain ⟨i0,hi0,hz0,hz1,hz2⟩:=info_parts jI
 have HE:=Lib.hid (AA c st)
 obtain ⟨cap,sent,got,fin,cells,words⟩:=c
 simp only at *
 have H1:=Lib.hid h1
 clear h1
 go_enter Tryz.func113,Tryz.ntmps113
 go_wp2
 go_loopw [5,6] (fun v i wr=>∃ k:Nat,k≤cells.length∧i=.int .i64 k∧ai wr (w.heap.size+1) v (kW cells st k)∧wr.cell? ⟨w.heap.size,4,none⟩=some (.slice a cells.length p)∧w.heap.size<wr.heap.size∧Below w.heap.size w wr) (fun _ i _=>cells.length - (intOf i).toNat)
 case atStart=>exact ⟨0,Nat.zero_le _,rfl,by rw [Dn];exact fJ _ _ _ _ _ (by simp) (by simp),by simp,by (simp;try omega),by exact zB⟩
 case round =>
  obtain ⟨k,hk,rfl,hown,x4,hlt1,hB⟩:=hrel
  by_cases hlt:k<cells.length
  ·obtain h0|⟨bb,bo,rfl,hb,hc⟩:=H1.out
   ·omega
   have c0:=(hB.cell (p:=⟨bb,bo+k*3+0,none⟩) hb).trans (hc k 0 hlt tO)
   simp only [eT,C3.val,Nat.add_zero] at c0
   clear hc
   generalize hcg:cells.getD k ⟨0,0,0⟩=c at c0
   have HC:=Lib.hid hcg
   clear hcg
   have hle:=sU cells st k
   have hk0:(0:Int)≤(k:Int):=by omega
   have hk1:(k:Int)<(cells.length:Int):=by omega
   go_wp2_with (at_builtin;refine wpList_append_own _ rfl _ _ 29 rfl (w.heap.size+1) 2 i0 _ 1 8 Tryz.underlying29 hi0 hz0 hz1 hz2 rfl (by decide) _ _ _ rfl (hown.alloc _) ⟨wr.heap.size,0,none⟩ 1 1 [.int .i64 k] rfl rfl (LA _ _ _) (by simp [Value.oneCell']) ?c3 ?c4 ?c5 ?_)
   case c3=>unfold maxLen;omega
   case c4=>omega
   case c5=>simp;omega
   ·intro v4 w4 kM hg _
    have hne:=own_ne hown (b:=w.heap.size) tO
    have hx4:w4.cell? ⟨w.heap.size,4,none⟩=some (.slice (some ⟨bb,bo,none⟩) cells.length p) :=
     (World.cell?_of_block (hg.block w.heap.size (by simp;omega) (fun e=>hne e.symm))).trans (gF x4)
    have hs4:=hg.size
    simp at hs4
    have hB4:Below w.heap.size w w4:=lI zB hg (by simp;omega) (fun q hq=>by have:=(hown.lt q hq).1;omega)
    have ht:(c.s == st)=true:=by assumption
    have hown5:ai w4 (w.heap.size+1) v4 (kW cells st (k+1)):=by
     rw [sS hlt HC.out ht];exact ai.snoc kM
    clear kM hg hne x4 hown
    go_wp2
    go_roundw
    case rel=>exact ⟨k+1,by omega,by go_num,hown5,hx4,by omega,hB4⟩
    case measure=>simp [intOf];omega
   ·go_roundw
    case rel=>exact ⟨k+1,by omega,by go_num,by rw [xG hlt HC.out ‹_›];exact hown,x4,hlt1,hB⟩
    case measure=>simp [intOf];omega
  ·have:k=cells.length:=by omega
   subst this
   go_wp2
   go_ret
   exact ⟨⟨_,rfl,ay (HE.out ▸ hown) tO⟩,hB⟩
theorem o8 (st:Int):∀ (l:List C3) (n:Nat) (x:Int),x ∈ iD st n l→∃ k:Nat,x=(k:Int)∧n≤k∧k<n+l.length
 | [],n,x,h=>by simp [iD] at h
 | d :: l,n,x,h=>by
  simp only [iD] at h
  have hr:x ∈ iD st (n+1) l→∃ k:Nat,x=(k:Int)∧n≤k∧k<n+(d :: l).length:=fun h=>by
   obtain ⟨k,h1,h2,h3⟩:=o8 st l (n+1) x h
   exact ⟨k,h1,by omega,by simp;omega⟩
  split at h
  ·rcases List.mem_cons.1 h with rfl|h
   ·exact ⟨n,rfl,Nat.le_refl _,by simp⟩
   ·exact hr h
  ·exact hr h
def elemOf (cells:List C3) (i:Int):Int:=(cells.getD i.toNat ⟨0,0,0⟩).e
def kv (cells:List C3) (l:List Int) (k:Nat):List Int:=(l.take k).map (elemOf cells)
theorem AB {cells:List C3} {l:List Int} {k:Nat} {x:Int} (hk:k<l.length) (hx:l.getD k 0=x):kv cells l (k+1)=kv cells l k ++ [elemOf cells x]:=by
 unfold kv
 have e:l.take (k+1)=l.take k ++ [x]:=by
  rw [List.take_succ_eq_append_getElem hk,← hx];simp [List.getD,List.getElem?_eq_getElem hk]
 rw [e,List.map_append];rfl
theorem Dp (cells:List C3) (l:List Int) (k:Nat):(kv cells l k).length≤k:=by
 have:=List.length_take_le k l
 simp [kv];omega
theorem Dq {c:Ch} (h:aG c=true):kv c.cells (tF c 2) (tF c 2).length=keptIn c:=by
 unfold kv keptIn
 rw [List.take_length,h];rfl
theorem AJ (c:Ch) (a b:Option Addr) (p q:Nat) (w:World) (h1:eY w w.heap.size a c.cells) (h2:eZ w w.heap.size b c.words) (hm:c.cells.length≤1099511627776) :
  Calls Tryz.prog 61 #[.agg #[.int .i64 c.cap,.int .i64 c.sent,.int .i64 c.got,.int .i64 c.fin,.slice a c.cells.length p,.slice b c.words.length q]] w fun r w'=>(∃ v,r=.returned v∧ai w' w.heap.size v (keptIn c))∧Below w.heap.size w w':=by
 obtain ⟨i0,hi0,hz0,hz1,hz2⟩:=info_parts jI
 have H1:=Lib.hid h1
 have H2:=Lib.hid h2
 clear h1 h2
 by_cases hc:aG c=true
 ·have HV:=Lib.hid (Dq hc)
  have HL:Hid (∀ x ∈ tF c 2,∃ k:Nat,x=(k:Int)∧k<c.cells.length):=fun x hx=>by
   obtain ⟨k,h1,_,h3⟩:=o8 2 c.cells 0 x hx
   exact ⟨k,h1,by omega⟩
  have hll:(tF c 2).length≤c.cells.length:=by have:=mf 2 c.cells 0;unfold tF;omega
  go_enter Tryz.func61,Tryz.ntmps61
  go_wp2_with fail
  refine (jr c a b p q _ (((H1.out).below zB).more (by simp;try omega)) (((H2.out).below zB).more (by simp;try omega))).mono ?_
  rintro _ w1 ⟨rfl,hb1⟩
  have hB1:Below w.heap.size w w1:=bT zB hb1
  have hs1:=hb1.size
  simp at hs1
  have:=fun o=>hb1.cell (p:=⟨w.heap.size,o,none⟩) (by simp;try omega)
  have hout1:ai w1 (w.heap.size+1) (.slice (some ⟨w.heap.size+1,0,none⟩) 0 0) []:=own_below (fJ _ _ _ _ _ (by simp) (by simp)) hb1
  go_wp2_with fail
  refine (IY c 2 a b p q _ (((H1.out).below hB1).more tO) hm).mono ?_
  rintro _ w2 ⟨⟨v2,rfl,hown2⟩,hb2⟩
  have hB2:Below w.heap.size w w2:=bT zB hb2
  have hs2:=hb2.size
  have hx4:w2.cell? ⟨w.heap.size,4,none⟩=some (.slice a c.cells.length p):=(hb2.cell (by simp;omega)).trans (by simp [*,go_sem])
  have hout2:=own_below hout1 hb2
  have hne2:∀ g,(Value.slice (some ⟨w.heap.size+1,0,none⟩) 0 0).ownBlock=some g→v2.ownBlock≠some g:=fun g hg he=>by
   simp [Value.ownBlock] at hg
   subst hg
   have:=(hown2.lt _ he).1
   omega
  obtain ⟨la,lc,rfl,_⟩:=ai.seg hown2
  generalize Ny:tF c 2=l at *
  have HA:=Lib.hid Ny
  clear Ny hout1 hb1 hb2
  go_wp2_with fail
  go_loopw [3,5] (fun v i wr=>∃ k:Nat,k≤l.length∧i=.int .i64 k∧ai wr (w.heap.size+1) v (kv c.cells l k)∧(∀ g,v.ownBlock=some g→(Value.slice la l.length lc).ownBlock≠some g)∧ai wr w1.heap.size (.slice la l.length lc) l∧wr.cell? ⟨w.heap.size,4,none⟩=some (.slice a c.cells.length p)∧w.heap.size<wr.heap.size∧Below w.heap.size w wr) (fun _ i _=>l.length - (intOf i).toNat)
  case atStart=>exact ⟨0,Nat.zero_le _,rfl,(show kv c.cells l 0=[] from rfl) ▸ hout2,hne2,hown2,hx4,by omega,hB2⟩
  case round =>
   clear hout2 hne2 hown2 hx4 hB2
   obtain ⟨k,hk,rfl,hown,hne,hol,x4,hlt1,hB⟩:=hrel
   by_cases hlt:k<l.length
   ·obtain ⟨i,hxi,hi⟩:=HL.out (l.getD k 0) (by rw [List.getD,List.getElem?_eq_getElem hlt];exact List.getElem_mem hlt)
    have hgl:∃ g,la=some ⟨g,0,none⟩∧wr.cell? ⟨g,k,none⟩=some (.int .i64 (l.getD k 0)):=by
     rcases hol.2 with ⟨h0,h00⟩|⟨g,cap,cur,h0,_⟩
     ·omega
     ·simp at h0
      refine ⟨g,h0.1,?_⟩
      have:=hol.cells (g:=g) (by rw [h0.1];rfl) k (.int .i64 (l.getD k 0)) (by simp [ints,List.getD,List.getElem?_eq_getElem hlt])
      rw [← this];congr 1;by_cases e:k=0 <;> simp [Addr.add,e]
    obtain ⟨g,rfl,cl⟩:=hgl
    obtain h0|⟨bb,bo,rfl,hb,hcc⟩:=H1.out
    ·omega
    have c1:=(hB.cell (p:=⟨bb,bo+i*3+1,none⟩) hb).trans (hcc i 1 hi tO)
    simp only [eT,C3.val] at c1
    clear hcc
    have he:elemOf c.cells (l.getD k 0)=(c.cells.getD i ⟨0,0,0⟩).e:=by rw [hxi];simp [elemOf]
    have Nz:=Lib.hid he
    generalize (c.cells.getD i ⟨0,0,0⟩).e=ev at c1 Nz
    clear he
    have HX:=Lib.hid hxi
    rw [hxi] at cl
    clear hxi
    have hle:=Dp c.cells l k
    have hk0:(0:Int)≤(k:Int):=by omega
    have hk1:(k:Int)<(l.length:Int):=by omega
    have Pe:(0:Int)≤(i:Int):=by omega
    have hin1:(i:Int)<(c.cells.length:Int):=by omega
    go_wp2_with fail
    have hgw:g<wr.heap.size:=World.block_lt_of_cell? _ _ cl
    have hbw:bb<wr.heap.size:=by omega
    have hn1:some w.heap.size≠u3.ownBlock:=fun e=>own_ne hown (b:=w.heap.size) tO e.symm
    have hn2:some g≠u3.ownBlock:=fun e=>hne g e.symm rfl
    have MR:some bb≠u3.ownBlock:=fun e=>own_ne hown (b:=bb) tO e.symm
    go_region_held3 (fun w'=>w'.cell? ⟨w.heap.size,4,none⟩=some (.slice (some ⟨bb,bo,none⟩) c.cells.length p)∧w'.cell? ⟨g,k,none⟩=some (.int .i64 i)∧w'.cell? ⟨bb,bo+i*3+1,none⟩=some (.int .i64 ev))
     (first
      | (simp [*,go_sem])
      | (refine ⟨World.grownBy.cell hgrow (by simp [*,go_sem]) hn1,World.grownBy.cell hgrow (by simp [*,go_sem]) hn2,World.grownBy.cell hgrow (by simp [*,go_sem]) MR⟩))
     (first|(refine step_append_lies _ (by rfl) _ _ _ (by rfl) (w.heap.size+1) 2 i0 _ 1 8 Tryz.underlying29 hi0 hz0 hz1 hz2 rfl tO u3 _ _ (by rfl) (World.ownsRow.drew (hown.alloc _)) ⟨wr.heap.size,0,none⟩ 1 1 [.int .i64 ev] (by rfl) (by rfl) (World.news_of_block (cs:=#[.int .i64 ev]) (t:=2) (fr:=(0,0)) (heap_alloc_new wr _)) (by simp [Value.oneCell']) tO (by unfold maxLen;omega) tO (by simp;omega) (wr.heap.size+1) (by simp) ?_;intro gg cap w4 kM hgrow hat Ni))
    have hx4:w4.cell? ⟨w.heap.size,4,none⟩=some (.slice (some ⟨bb,bo,none⟩) c.cells.length p):=World.grownBy.cell hgrow (by simp [*,go_sem]) hn1
    have hs4:=hgrow.size
    simp at hs4
    have hB4:Below w.heap.size w w4:=lI zB hgrow (by simp;omega) (fun q hq=>by have:=(hown.lt q hq).1;omega)
    have Pf:ai w4 w1.heap.size (.slice (some ⟨g,0,none⟩) l.length lc) l:=(World.ownsRow.drew (hol.alloc _)).kept hgrow (.inr hn2)
    have hown5:ai w4 (w.heap.size+1) (.slice (some ⟨gg,0,none⟩) ((kv c.cells l k).length+1) cap) (kv c.cells l (k+1)):=by
     rw [AB hlt rfl,Nz.out];exact ai.snoc kM
    have hgg:g≠gg:=by
     rcases hat with hat|hat
     ·intro e;exact hn2 (by rw [hat,e])
     ·omega
    clear kM hgrow hn1 hn2 MR hown hol hne x4 hat
    go_wp2
    go_roundw
    case rel=>exact ⟨k+1,by omega,by go_num,hown5,fun g' e1 e2=>hgg (by simp [Value.ownBlock] at e1 e2;omega),Pf,hx4,by omega,hB4⟩
    case measure=>simp [intOf];omega
   ·have:k=l.length:=by omega
    subst this
    go_wp2
    go_ret
    exact ⟨⟨_,rfl,ay (HV.out ▸ hown) tO⟩,hB⟩
 ·have HV:Hid (keptIn c=[]):=by simp [keptIn,hc,Hid]
  go_enter Tryz.func61,Tryz.ntmps61
  go_wp2_with fail
  refine (jr c a b p q _ (((H1.out).below zB).more (by simp;try omega)) (((H2.out).below zB).more (by simp;try omega))).mono ?_
  rintro _ w1 ⟨rfl,hb1⟩
  have hB1:Below w.heap.size w w1:=bT zB hb1
  have hout1:ai w1 w.heap.size (.slice (some ⟨w.heap.size+1,0,none⟩) 0 0) []:=own_below (fJ _ _ _ _ _ (by simp) (by simp)) hb1
  go_wp2
  go_ret
  refine ⟨⟨_,rfl,?_⟩,by exact zB⟩
  rw [HV.out]
  exact hout1
end
section
open Go.RowKit
def DS (w:World) (B g:Nat):Prop:=∃ (a:Option Addr) (n cap i:Nat) (h:Int) (bs:Nat→Int),
 w.heap[g]?=some (.cells #[.slice a n cap,.int .i64 i,.int .i64 h] 147 (0,0))∧i≤n∧n≤4096∧B≤g∧(∀ j,0≤bs j∧bs j≤255)∧Seg w B a n 1 (fun j _=>.int .u8 (bs j))
theorem DS.lt {w:World} {B g:Nat} (h:DS w B g):g<w.heap.size:=by
 obtain ⟨a,n,cap,i,h,bs,hg,_⟩:=h
 exact (Array.getElem?_eq_some_iff.1 hg).1
theorem DS.le {w:World} {B g:Nat} (h:DS w B g):B≤g:=by
 obtain ⟨a,n,cap,i,h,bs,hg,_,_,hB,_⟩:=h
 exact hB
theorem DS.keep {w w':World} {B g:Nat} (h:DS w B g) (e:w'.heap[g]?=w.heap[g]?) (k:Below B w w'):DS w' B g:=by
 obtain ⟨a,n,cap,i,h,bs,hg,h1,h2,h3,h4,h5⟩:=h
 exact ⟨a,n,cap,i,h,bs,e.trans hg,h1,h2,h3,h4,h5.below k⟩
theorem DS.alloc {w:World} {B g:Nat} {o:Obj} (h:DS w B g):DS (w.alloc o) B g:=h.keep (Below.heap_alloc w o g h.lt) ((Below.refl _ _).alloc (by have:=h.lt;have:=h.le;omega) o)
theorem DS.drew {w:World} {B g:Nat} (h:DS w B g):DS w.drew B g:=h
theorem DS.below {w w':World} {B g:Nat} (h:DS w B g) (k:Below w.heap.size w w'):DS w' B g:=h.keep (k.block g h.lt) (k.mono (by have:=h.lt;have:=h.le;omega))
theorem ny {w:World} {g:Nat} {cs:Array Value} {t:TypeId} (h:w.heap[g]?=some (.cells cs t (0,0))) (o:Nat):w.frozen? ⟨g,o,none⟩=false:=by
 simp [World.frozen?,h]
end
section
open Go.RowKit
attribute [local simp] aI
attribute [local go_sem ↓] aH aM aN kR ax
attribute [local go_sem] j5
theorem ky (x:Wo):∀ k,(eQ x k).length≤k
 | 0=>Nat.le_refl _
 | k+1=>by
  have:=ky x k
  unfold eQ
  split
  ·simp;omega
  ·omega
theorem o9 {x:Wo} {k:Nat} (h:iU x k=true):eQ x (k+1)=eQ x k ++ [(k:Int)]:=by simp [eQ,h]
theorem vO {x:Wo} {k:Nat} (h:iU x k=false):eQ x (k+1)=eQ x k:=by simp [eQ,h]
theorem nS (x:Wo) (a b d e:Option Addr) (p q r s:Nat) (w:World) (h1:eY w w.heap.size a x.ch.cells) (z1:a=none→p=0) (h2:eZ w w.heap.size b x.ch.words) (z2:b=none→q=0) (h3:Gh w w.heap.size d x.hands) (h4:Jj w w.heap.size e x.deals) (m1:x.ch.cells.length≤1099511627776) (m3:x.hands.length≤1099511627776) (m4:x.deals.length≤1099511627776) :
  Calls Tryz.prog 26 #[zY x a b d e p q r s] w fun r' w'=>(∃ v,r'=.returned v∧ai w' w.heap.size v (cB x))∧Below w.heap.size w w':=by
 obtain ⟨i0,hi0,hz0,hz1,hz2⟩:=info_parts jI
 have H1:=Lib.hid h1
 have H2:=Lib.hid h2
 have H3:=Lib.hid h3
 have H4:=Lib.hid h4
 have Z1:=Lib.hid z1
 have Z2:=Lib.hid z2
 clear h1 h2 h3 h4 z1 z2
 cases hk:dU x with
 | false =>
  have e0:cB x=[]:=by simp [cB,hk]
  rw [e0]
  go_enter Tryz.func26,Tryz.ntmps26
  go_wp2_with fail
  refine au w zB fun bb=>?_
  refine (jT x a b d e p q r s _ (aT H1 bb) (aT H2 bb) (aT H3 bb) (aT H4 bb) m3 m4).mono ?_
  rintro _ w1 ⟨rfl,ag⟩
  rw [hk]
  have o0:ai w1 w.heap.size _ []:=own_below (fJ _ _ _ _ (w.heap.size+1) (by simp) (by simp)) ag
  have hB1:Below w.heap.size w w1:=bT bb ag
  have ak:=ag.size;(try simp at ak);have zz:=hQ ag (b:=w.heap.size);(try simp [go_sem] at zz);(try clear bG di dC bV);have bG:=zz;clear zz;obtain ⟨di,dC,bV⟩:=bO bG;clear ag
  go_wp2
  go_ret
  exact ⟨⟨_,rfl,o0⟩,by exact zB⟩
 | true =>
  have e0:cB x=eQ x x.hands.length:=by simp [cB,hk]
  rw [e0]
  go_enter Tryz.func26,Tryz.ntmps26
  go_wp2_with fail
  refine au w zB fun bb=>?_
  refine (jT x a b d e p q r s _ (aT H1 bb) (aT H2 bb) (aT H3 bb) (aT H4 bb) m3 m4).mono ?_
  rintro _ w1 ⟨rfl,ag⟩
  rw [hk]
  have o0:ai w1 (w.heap.size+1) _ []:=own_below (fJ _ _ _ _ (w.heap.size+1) (by simp) (by simp)) ag
  have hB1:Below w.heap.size w w1:=bT bb ag
  have ak:=ag.size;(try simp at ak);have zz:=hQ ag (b:=w.heap.size);(try simp [go_sem] at zz);(try clear bG di dC bV);have bG:=zz;clear zz;obtain ⟨di,dC,bV⟩:=bO bG;clear ag
  go_wp2
  go_loopw [3,4] (fun v i wr=>∃ k:Nat,k≤x.hands.length∧i=.int .i64 k∧ai wr (w.heap.size+1) v (eQ x k)∧hp wr w.heap.size=some (.cells #[.int .i64 x.ch.cap,.int .i64 x.ch.sent,.int .i64 x.ch.got,.int .i64 x.ch.fin,.slice a x.ch.cells.length p,.slice b x.ch.words.length q,.slice d x.hands.length r,.slice e x.deals.length s,.int .i64 x.now] 35)∧w.heap.size<wr.heap.size∧Below w.heap.size w wr) (fun _ i _=>x.hands.length - (intOf i).toNat)
  case atStart=>exact ⟨0,Nat.zero_le _,rfl,o0,by simp [go_sem, *],by omega,hB1⟩
  case round =>
   obtain ⟨k,hk,rfl,hown,bG,bV,hB⟩:=hrel
   clear di dC
   have di:∀ o,wr.cell? ⟨w.heap.size,o,none⟩=_:=fun o=>cell_of_row wr w.heap.size o _ _ _ bG
   have dC:∀ o,wr.frozen? ⟨w.heap.size,o,none⟩=false:=ny bG
   by_cases hlt:k<x.hands.length
   ·have hk0:(0:Int)≤(k:Int):=by omega
    have hk1:(k:Int)<(x.hands.length:Int):=by omega
    have hle:=ky x k
    have PP:=nR x k hlt a b d e p q r s wr (H1.out.below hB |>.more hB.size) Z1.out (H2.out.below hB |>.more hB.size) Z2.out (H3.out.below hB |>.more hB.size) (H4.out.below hB |>.more hB.size) m1 m3 m4
    cases hpk:iU x k with
    | true =>
     rw [hpk] at PP
     go_wp2_with fail;refine au w zB fun bb=>?_;refine au wr zB fun bk=>?_;refine (PP).mono ?_;rintro _ w5 ⟨rfl,bU⟩;have mE:Below w.heap.size w w5:=bT bb bU;have gK:=bU.size;(try simp at gK);have zz:=hQ bU (b:=w.heap.size);(first|simp [go_sem,bG,bV] at zz|simp [go_sem] at zz|skip);(try clear bG di dC bV);have bG:=zz;clear zz;obtain ⟨di,dC,bV⟩:=bO bG;have gZ:Below wr.heap.size wr w5:=bT bk bU;clear bU bb bk
     replace hown:=own_below hown gZ
     go_wp2_with (at_builtin;refine wpList_append_own _ rfl _ _ 29 rfl (w.heap.size+1) 2 i0 _ 1 8 Tryz.underlying29 hi0 hz0 hz1 hz2 rfl (by decide) _ _ _ rfl (hown.alloc _) ⟨w5.heap.size,0,none⟩ 1 1 [.int .i64 k] rfl rfl (LA _ _ _) (by simp [Value.oneCell']) ?c3 ?c4 ?c5 ?_)
     case c3=>unfold maxLen;omega
     case c4=>omega
     case c5=>simp;omega
     intro v4 w4 kM hg _
     have hne:=own_ne hown (b:=w.heap.size) tO
     have Qz:hp w4 w.heap.size=hp w5 w.heap.size:=by
      refine (hg.block w.heap.size (by simp;omega) (fun e=>hne e.symm)).trans ?_
      exact Below.heap_alloc _ _ _ tO
     have hs4:=hg.size
     simp at hs4
     have hB4:Below w.heap.size w w4:=lI zB hg (by simp;omega) (fun q hq=>by have:=(hown.lt q hq).1;omega)
     have hown5:ai w4 (w.heap.size+1) v4 (eQ x (k+1)):=by
      rw [o9 hpk];exact ai.snoc kM
     clear kM hg hne hown
     go_wp2
     go_roundw
     case rel=>exact ⟨k+1,by omega,by go_num,hown5,Qz.trans bG,by omega,hB4⟩
     case measure=>simp [intOf];omega
    | false =>
     rw [hpk] at PP
     go_wp2_with fail;refine au w zB fun bb=>?_;refine au wr zB fun bk=>?_;refine (PP).mono ?_;rintro _ w5 ⟨rfl,bU⟩;have mE:Below w.heap.size w w5:=bT bb bU;have gK:=bU.size;(try simp at gK);have zz:=hQ bU (b:=w.heap.size);(first|simp [go_sem,bG,bV] at zz|simp [go_sem] at zz|skip);(try clear bG di dC bV);have bG:=zz;clear zz;obtain ⟨di,dC,bV⟩:=bO bG;have gZ:Below wr.heap.size wr w5:=bT bk bU;clear bU bb bk
     replace hown:=own_below hown gZ
     have LC:Below w.heap.size w w5:=bT hB gZ
     go_wp2
     go_roundw
     case rel=>exact ⟨k+1,by omega,by go_num,by rw [vO hpk];exact hown,bG,by omega,LC⟩
     case measure=>simp [intOf];omega
   ·have:k=x.hands.length:=by omega
    subst this
    go_wp2
    go_ret
    exact ⟨⟨_,rfl,ay hown tO⟩,hB⟩
end
section
open Go.RowKit
section
variable {P:Program}
end
theorem AL {w:World} {lo g n k:Nat} {t:TypeId} {xs:List Value} (h:w.heap[g]?=some (.cells xs.toArray t (0,0))) (hl:xs.length=n*k) (hlo:lo≤g) (hm:n≤maxLen):w.ownsRow lo t k (.slice (some ⟨g,0,none⟩) n n) n xs :=
 ⟨hl,.inr ⟨g,n,xs.toArray,rfl,hlo,h,Nat.le_refl _,hm,by simp [hl],by simp [← hl]⟩⟩
end
section
open Go.RowKit
theorem xH (n1 n2:Nat) (f1 f2:Nat→Nat→Value) (x1 x2 x3 x4:Int) (l1 l2:Nat) (v1 v2:Value) (k k1:Int) (w:World) (h1:New w l1 v1 n1 3 f1) (h2:New w l2 v2 n2 1 f2) (hne:∀ i,v1.ownBlock=some i→v2.ownBlock≠some i) (hk:0≤k) (hk2:k≤1000) (e1:k1=k+3*n1) (m1:n1≤1048576) (m2:n2≤1048576) :
  Calls Tryz.prog 93 #[.agg #[.int .i64 x1,.int .i64 x2,.int .i64 x3,.int .i64 x4,v1,v2],.int .i64 k] w fun r w'=>r=.returned (.int .i64 (k1+n2))∧Jo w' l1 v1 (lX k n1)∧yj w' l2 v2 (kV k1 n2)∧gV v1.ownBlock v2.ownBlock w w':=by
 have H1:=Lib.hid h1
 have H2:=Lib.hid h2
 have Z1:some w.heap.size≠v1.ownBlock:=fun e=>by have:=(h1.lt e.symm).2;omega
 have HN:=Lib.hid hne
 have E1:=Lib.hid e1
 have hk1:0≤k1:=by omega
 have hk3:k1≤1099511627776:=by omega
 clear h1 h2 hne e1
 go_enter Tryz.func93,Tryz.ntmps93
 go_wp2_with fail
 refine (uK n1 f1 l1 v1 k _ (H1.out.below zB) tO tO m1).mono ?_
 rintro _ w1 ⟨rfl,hN1,hg1⟩
 rw [← E1.out]
 have hs1:=hg1.size
 simp at hs1
 have:=fun o=>Gs hg1 (b:=w.heap.size) (by simp) Z1 o
 have Q0:New w1 l2 v2 n2 1 f2:=(H2.out.below (w1:=w.alloc (.cells #[.int .i64 x1,.int .i64 x2,.int .i64 x3,.int .i64 x4,v1,v2] 31)) zB).kept hg1 (by
  by_cases e:v1.ownBlock=none
  ·exact .inl e
  ·obtain ⟨i,hi⟩:=Option.ne_none_iff_exists'.1 e
   exact .inr (by rw [hi];exact HN.out i hi))
 have HW:=Lib.hid (PN _ hg1)
 clear hg1
 go_wp2_with fail
 refine (mY n2 f2 l2 v2 k1 _ Q0 tO tO m2).mono ?_
 rintro _ w2 ⟨rfl,Q5,hg2⟩
 have Pg:=hN1.kept hg2 (by
  by_cases e:v2.ownBlock=none
  ·exact .inl e
  ·obtain ⟨i,hi⟩:=Option.ne_none_iff_exists'.1 e
   exact .inr (by rw [hi];intro e2;exact HN.out i e2 hi))
 have hO:gV v1.ownBlock v2.ownBlock w w2:=fA (kS HW.out) (Nb hg2)
 go_wp2
 go_ret
 exact ⟨rfl,Pg,Q5,hO⟩
end
end Go.Proofs.YtffhjmepfojhnaaGreat
