/-
  The program's step of parking: its face catches what gives up; lists lie in memory.
-/
import Derived.Test.YtffhjmepfojhnaaGreatP06
import Derived.Test.YtffhjmepfojhnaaGreatP13
import Derived.Test.YtffhjmepfojhnaaGreatP12
import Derived.Recover
import Derived.WalkLawsBesides
import Derived.Laws.EntriesVeiled
import Derived.Test.YtffhjmepfojhnaaGreatP05
import Derived.Test.YtffhjmepfojhnaaGreatP02
set_option maxRecDepth 100000
set_option maxHeartbeats 8000000
set_option linter.unusedSimpArgs false
set_option linter.unusedVariables false
namespace Go.Proofs.YtffhjmepfojhnaaGreat
section
open Go.RowKit
attribute [local simp] aI
attribute [local go_sem ↓] aH aU aM bz aN bB aA aK ax aB
theorem Ir (w:World):Calls Tryz.prog 233 #[] w fun r w'=>r=.returned (.tuple #[.agg (af Ch.zero (.slice none 0 0) (.slice none 0 0)),.agg (aa Ha.zero),.bool false])∧Below w.heap.size w w':=by
 go_enter Tryz.func233,Tryz.ntmps233
 go_wp2
 refine rE Tryz.results233 rfl (az Ch.zero (.slice none 0 0) (.slice none 0 0) (by simp [go_sem])) rfl (aj Ha.zero (by simp [go_sem])) ⟨rfl,by exact zB⟩
theorem Ef {P:Program} {fn:Func} {tmps:Array Value} {w:World} {p q u:Nat} {T S U:TypeId} {a a' a2:Addr} {x y z:Value} (h:fn.results=#[.cell p T,.cell q S,.cell u U]) (hp:tmps.getD p undef=.pointer (some a)) (hl:(loadVar T a).run P w=.ok x w) (hp':tmps.getD q undef=.pointer (some a')) (hl':(loadVar S a').run P w=.ok y w) (hp2:tmps.getD u undef=.pointer (some a2)) (hl2:(loadVar U a2).run P w=.ok z w):(results fn tmps).run P w=.ok (.tuple #[x,y,z]) w:=by
 simp only [results,h]
 simp [Sem.run_bind,Result.andThen,asAddr] at *
 simp [hp,hl,hp',hl',hp2,hl2]
theorem Iu {w:World} {b:Nat} {v:Bool} (h:hp w b=some (.cells #[.bool v] 4)):(loadVar 4 ⟨b,0,none⟩).run Tryz.prog w=.ok (.bool v) w:=by
 have c:=(bO h).1 0
 simp at c
 simp [go_sem,c]
theorem KC {lo:Nat} {w W W':World} (h:Below lo w W) (k:Below lo W W'):Below lo w W':=⟨k.os.trans h.os,k.tape.trans h.tape,k.output.trans h.output,Nat.le_trans h.size k.size,fun i hi=>(k.block i hi).trans (h.block i hi)⟩
theorem zV {w:World} {lo b i k m:Nat} {e T':TypeId} {u v:Value} {xs:List Value} {y:Array Value} (h:w.ownsRow lo e k u m xs) (hz:hp w b=some (.cells y T')) (hne:e≠T'):(w.setCell ⟨b,i,none⟩ v).ownsRow lo e k u m xs:=h.kept (gS (gR _ _) (.inl rfl)) (.inr fun e2=>rf h hz hne b e2 rfl)
theorem Iw {lo b i:Nat} {w W:World} {v:Value} (h:Below lo w W) (hb:lo≤b):Below lo w (W.setCell ⟨b,i,none⟩ v):=⟨h.os,h.tape,h.output,by simpa [World.setCell] using h.size,fun k hk=>(Below.heap_setCell _ _ _ k (by simp;omega)).trans (h.block k hk)⟩
theorem Fj (b4 b5 b6:Nat) (T:TypeId) (s:Value) (older:List PanicEntry) (w:World) (x4:Array Value) (x5:Array Value) (x6:Value) (z4:hp w b4=some (.cells x4 31)) (s4:x4.size=6) (z5:hp w b5=some (.cells x5 49)) (s5:x5.size=14) (z6:hp w b6=some (.cells #[x6] 4)) :
  CallsD Tryz.prog 274 #[.pointer (some ⟨b4,0,none⟩),.pointer (some ⟨b5,0,none⟩),.pointer (some ⟨b6,0,none⟩)] (.panicking ({ v:=.iface T s,recovered:=false } :: older)) w fun e u' w' =>
   e=.returned (.tuple #[])∧u'=.panicking ({ v:=.iface T s,recovered:=true } :: older)∧hp w' b4=some (.cells (af Ch.zero (.slice none 0 0) (.slice none 0 0)) 31)∧hp w' b5=some (.cells (aa Ha.zero) 49)∧hp w' b6=some (.cells #[.bool false] 4)∧(∀ lo,lo≤b4→lo≤b5→lo≤b6→lo≤w.heap.size→Below lo w w'):=by
 refine callsD_of_wpS Tryz.func274 rfl fun c₀ cs hu=>?_
 apply wpS_seq
 apply wpS_region
 simp [wpOpsS,go_sem,recoverD,hu,Tryz.ntmps274,Exit.thenS]
 refine wpS_cond (t:=true) (by simp [Act.eval,Array.replicate]) ?_
 simp only [if_true]
 refine wpS_of_wp ?_
 simp only [Array.replicate_succ,Array.replicate_zero,List.push_toArray,List.append_toArray,List.nil_append,List.cons_append,List.setIfInBounds_toArray,List.set_cons_zero,List.set_cons_succ]
 have n45:b4≠b5:=by rintro rfl;rw [z4] at z5;simp at z5
 have n46:b4≠b6:=by rintro rfl;rw [z4] at z6;simp at z6
 have n56:b5≠b6:=by rintro rfl;rw [z5] at z6;simp at z6
 go_wp2_with (go_at_call 233;refine (Ir _).mono ?_;rintro _ w1 ⟨rfl,hE⟩;have Oi:=fC z4 hE;have Qk:=fC z5 hE;have Ql:=fC z6 hE;have k4:okO 6 (hp w1 b4)=true:=(by rw [Oi];simp [okO,s4]);have q5:=lL (ys:=af Ch.zero (.slice none 0 0) (.slice none 0 0)) Oi Qk (by decide);have k5:okO 14 (hp (bI w1 b4 (af Ch.zero (.slice none 0 0) (.slice none 0 0))) b5)=true:=(by rw [q5];simp [okO,s5]);have q6:=lL (ys:=af Ch.zero (.slice none 0 0) (.slice none 0 0)) Oi Ql (by decide);have r6:=lL (ys:=aa Ha.zero) q5 q6 (by decide);have r4:=lL (ys:=aa Ha.zero) q5 (gQ (ys:=af Ch.zero (.slice none 0 0) (.slice none 0 0)) Oi) (by decide);have r5:=gQ (ys:=aa Ha.zero) q5;obtain ⟨c6,f6,l6⟩:=bO r6)
 refine ⟨rfl,_,rfl,_,results_none rfl _ _ _,rfl,rfl,(Below.heap_setCell _ _ _ b4 n46).trans r4,(Below.heap_setCell _ _ _ b5 n56).trans r5,by rw [pg,r6];rfl,fun lo l4 l5 l6 l=>Iw (ME (ME (show Below lo w w1 from ⟨hE.os,hE.tape,hE.output,hE.size,fun k hk=>hE.block k (Nat.lt_of_lt_of_le hk l)⟩) l4) l5) l6⟩
theorem C9 (b4 b5 b6:Nat) (w:World) :
  CallsD Tryz.prog 274 #[.pointer (some ⟨b4,0,none⟩),.pointer (some ⟨b5,0,none⟩),.pointer (some ⟨b6,0,none⟩)] .returning w fun e u' w'=>e=.returned (.tuple #[])∧u'=.returning∧w'=w:=by
 refine callsD_of_wpS Tryz.func274 rfl fun c₀ cs hu=>?_
 apply wpS_seq
 apply wpS_region
 simp [wpOpsS,go_sem,recoverD,hu,Tryz.ntmps274,Exit.thenS]
 refine wpS_cond (t:=false) (by simp [Act.eval,Array.replicate]) ?_
 simp only [Bool.false_eq_true,if_false]
 refine wpS_of_wp (wp_skip ?_)
 cases c₀
 simp_all [bodyPostS,results,Tryz.results274]
theorem Iy (c:Ch) (h:Ha) (a b:Option Addr) (p q:Nat) (w:World) (h1:eY w w.heap.size a c.cells) (z1:a=none→p=0) (h2:eZ w w.heap.size b c.words) (z2:b=none→q=0)
  (HB:∀ (W:World),eY W W.heap.size a c.cells→(a=none→p=0)→eZ W W.heap.size b c.words→(b=none→q=0)→Calls Tryz.prog 236 #[.func (.func 275) #[] #[],.agg (af c (.slice a c.cells.length p) (.slice b c.words.length q)),.agg (aa h)] W fun e W'=>∃ T s,e=.panicked [{ v:=.iface T s,recovered:=false }]∧Below W.heap.size W W') :
  Calls Tryz.prog 273 #[.agg (af c (.slice a c.cells.length p) (.slice b c.words.length q)),.agg (aa h)] w fun r w'=>bQ w w' nothing r:=by
 have Qm:∀ (fn:Fn) (first cap:Array Value) (w:World),(Instr.makeFunc fn first cap).run Tryz.prog w=.ok (.func fn first cap) w:=fun _ _ _ _=>rfl
 have H1:=Lib.hid h1
 have H2:=Lib.hid h2
 have Z1:=Lib.hid z1
 have Z2:=Lib.hid z2
 have HH:=Lib.hid HB
 clear h1 h2 z1 z2 HB
 go_enter_defers Tryz.func273,Tryz.ntmps273
 go_wp2_with fail
 refine au w zB fun bb=>?_
 refine (HH.out _ (aT H1 bb) Z1.out (aT H2 bb) Z2.out).mono ?_
 rintro _ w1 ⟨T,s,rfl,hE⟩
 have hB1:Below w.heap.size w w1:=bT bb hE
 have hs1:=hE.size
 simp at hs1
 have z4:hp w1 (w.heap.size+1+1)=some (.cells (af Ch.zero (.slice none 0 0) (.slice none 0 0)) 31):=by rw [mG hE (by simp)];simp [go_sem]
 have z5:hp w1 (w.heap.size+1+1+1)=some (.cells (aa Ha.zero) 49):=by rw [mG hE (by simp)];simp [go_sem]
 have z6:hp w1 (w.heap.size+1+1+1+1)=some (.cells #[.bool false] 4):=by rw [mG hE (by simp)];simp [go_sem]
 clear hE bb
 go_wp2
 refine leaves_cons (f:=274) (args:=#[.pointer (some ⟨w.heap.size+1+1,0,none⟩),.pointer (some ⟨w.heap.size+1+1+1,0,none⟩),.pointer (some ⟨w.heap.size+1+1+1+1,0,none⟩)]) (by simp) (by simp [go_sem]) ?_
 refine (Fj _ _ _ T s [] _ _ _ _ z4 rfl z5 rfl z6).mono ?_
 rintro e u' w2 ⟨rfl,rfl,y4,y5,y6,hlo⟩
 have hB2:Below w.heap.size w w2:=KC hB1 (hlo w.heap.size tO tO tO tO)
 exact ⟨_,Ef Tryz.results273 rfl (az Ch.zero (.slice none 0 0) (.slice none 0 0) y4) rfl (aj Ha.zero y5) rfl (Iu y6),jZ _ _ _ _ _,hB2⟩
theorem pK (x:St) (c:Ch) (h:Ha) (a b:Option Addr) (p q:Nat) (w:World) (h1:eY w w.heap.size a c.cells) (z1:a=none→p=0) (h2:eZ w w.heap.size b c.words) (z2:b=none→q=0)
  (HB:∀ (W:World),eY W W.heap.size a c.cells→(a=none→p=0)→eZ W W.heap.size b c.words→(b=none→q=0)→Calls Tryz.prog 236 #[.func (.func 275) #[] #[],.agg (af c (.slice a c.cells.length p) (.slice b c.words.length q)),.agg (aa h)] W fun e W'=>bQ W W' x e) :
  Calls Tryz.prog 273 #[.agg (af c (.slice a c.cells.length p) (.slice b c.words.length q)),.agg (aa h)] w fun r w'=>bQ w w' x r:=by
 have Qm:∀ (fn:Fn) (first cap:Array Value) (w:World),(Instr.makeFunc fn first cap).run Tryz.prog w=.ok (.func fn first cap) w:=fun _ _ _ _=>rfl
 have H1:=Lib.hid h1
 have H2:=Lib.hid h2
 have Z1:=Lib.hid z1
 have Z2:=Lib.hid z2
 have HH:=Lib.hid HB
 clear h1 h2 z1 z2 HB
 go_enter_defers Tryz.func273,Tryz.ntmps273
 go_wp2_with fail
 generalize hW0:World.alloc _ _=W0
 have hB0:Below w.heap.size w W0:=by rw [← hW0];exact zB
 have hs0:W0.heap.size=w.heap.size+1+1+1+1+1:=by rw [← hW0];simp
 have z4:hp W0 (w.heap.size+1+1)=some (.cells (af Ch.zero (.slice none 0 0) (.slice none 0 0)) 31):=by rw [← hW0];simp [go_sem]
 have z5:hp W0 (w.heap.size+1+1+1)=some (.cells (aa Ha.zero) 49):=by rw [← hW0];simp [go_sem]
 have z6:hp W0 (w.heap.size+1+1+1+1)=some (.cells #[.bool false] 4):=by rw [← hW0];simp [go_sem]
 clear hW0
 refine (HH.out W0 ((H1.out.below hB0).more hB0.size) Z1.out ((H2.out.below hB0).more hB0.size) Z2.out).mono ?_
 rintro _ w1 ⟨⟨y1,y2,rfl,Y1,Y2,F1,F2⟩,hE⟩
 replace z4:=fC z4 hE
 replace z5:=fC z5 hE
 replace z6:=fC z6 hE
 have hB1:Below w.heap.size w w1:=bT hB0 hE
 have hs1:=hE.size
 replace Y1:ah w1 w.heap.size y1 x.1.cells:=ay Y1 tO
 replace Y2:ai w1 w.heap.size y2 x.1.words:=ay Y2 tO
 clear hE
 obtain ⟨xa,xp,ea,_⟩:=Y1.seg
 obtain ⟨xb,xq,eb,_⟩:=Y2.seg
 subst ea eb
 have k4:okO 6 (hp w1 (w.heap.size+1+1))=true:=by rw [z4];rfl
 have q5:=lL (ys:=af x.1 (.slice xa x.1.cells.length xp) (.slice xb x.1.words.length xq)) z4 z5 (by decide)
 have k5:okO 14 (hp (bI w1 (w.heap.size+1+1) (af x.1 (.slice xa x.1.cells.length xp) (.slice xb x.1.words.length xq))) (w.heap.size+1+1+1))=true:=by rw [q5];rfl
 have q6:=lL (ys:=af x.1 (.slice xa x.1.cells.length xp) (.slice xb x.1.words.length xq)) z4 z6 (by decide)
 have r4:=lL (ys:=aa x.2.1) q5 (gQ (ys:=af x.1 (.slice xa x.1.cells.length xp) (.slice xb x.1.words.length xq)) z4) (by decide)
 have r5:=gQ (ys:=aa x.2.1) q5
 have r6:=lL (ys:=aa x.2.1) q5 q6 (by decide)
 obtain ⟨c6,f6,l6⟩:=bO r6
 go_wp2
 refine leaves_cons (f:=274) (args:=#[.pointer (some ⟨w.heap.size+1+1,0,none⟩),.pointer (some ⟨w.heap.size+1+1+1,0,none⟩),.pointer (some ⟨w.heap.size+1+1+1+1,0,none⟩)]) (by simp) (by simp [go_sem]) ?_
 refine (C9 _ _ _ _).mono ?_
 rintro e u' w2 ⟨rfl,rfl,rfl⟩
 exact ⟨_,Ef Tryz.results273 rfl (az x.1 _ _ ((Below.heap_setCell _ _ _ _ (by simp)).trans r4)) rfl (aj x.2.1 ((Below.heap_setCell _ _ _ _ (by simp)).trans r5)) rfl (Iu (by rw [pg,r6];rfl)),⟨_,_,rfl,zV (dG (dG Y1 z4 (by decide)) q5 (by decide)) r6 (by decide),zV (dG (dG Y2 z4 (by decide)) q5 (by decide)) r6 (by decide),fun j e=>.inr (Y1.lt j e).1,fun j e=>.inr (Y2.lt j e).1⟩,by exact zB⟩
theorem zW (F:Nat) (c:Ch) (h:Ha) (a b:Option Addr) (p q:Nat) (w:World) (h1:eY w w.heap.size a c.cells) (z1:a=none→p=0) (h2:eZ w w.heap.size b c.words) (z2:b=none→q=0) (hc:aG c=true) (hh:bF h=true) (eg:∀ args w,(callFunc F args).run Tryz.prog w=.ok (.enter F args) w) (HF:∀ (v1 v2:Value) (lo:Nat) (W:World),ah W lo v1 c.cells→ai W lo v2 c.words→lo≤W.heap.size→Calls Tryz.prog F #[.agg (af c v1 v2),.agg (aa h)] W fun e W'=>∃ T s,e=.panicked [{ v:=.iface T s,recovered:=false }]∧Below W.heap.size W W') :
  Calls Tryz.prog 236 #[.func (.func F) #[] #[],.agg (af c (.slice a c.cells.length p) (.slice b c.words.length q)),.agg (aa h)] w fun e w'=>∃ T s,e=.panicked [{ v:=.iface T s,recovered:=false }]∧Below w.heap.size w w':=by
 obtain ⟨n1,n2⟩:=iW hc
 have l1:c.cells.length≤maxLen:=by unfold maxLen;omega
 have l2:c.words.length≤maxLen:=by unfold maxLen;omega
 have m1:c.cells.length≤1099511627776:=by omega
 have m2:c.words.length≤1099511627776:=by omega
 have H1:=Lib.hid h1
 have H2:=Lib.hid h2
 have Z1:=Lib.hid z1
 have Z2:=Lib.hid z2
 clear h1 h2 z1 z2 n1 n2
 have Og:=Lib.hid HF
 clear HF
 go_enter Tryz.func236,Tryz.ntmps236
 go_wp2_with fail;refine au w zB fun bb=>?_;refine (ic c a b p q _ (aT H1 bb) (aT H2 bb) l1 l2).mono ?_;rintro _ w1 ⟨rfl,ag⟩;have aV:Below w.heap.size w w1:=bT bb ag;have ak:=ag.size;(try simp at ak);have zz:=q4 ag (b:=w.heap.size);(try simp [go_sem] at zz);(try clear aJ cu cz bq);(try clear bg dJ dK bW);(try clear dE dS dZ dz);(try clear bG di dC bV);obtain ⟨aJ,bg,dE,bG⟩:=zz;obtain ⟨cu,cz,bq⟩:=bO aJ;obtain ⟨dJ,dK,bW⟩:=bO bg;obtain ⟨dS,dZ,dz⟩:=bO dE;obtain ⟨di,dC,bV⟩:=bO bG;clear ag bb
 rw [hc]
 go_wp2_with fail;refine au w zB fun bb=>?_;refine (gG h _).mono ?_;rintro _ w2 ⟨rfl,hbw2⟩;have dh:Below w.heap.size w w2:=bT bb hbw2;have aR:=hbw2.size;(try simp at aR);have zz:=q4 hbw2 (b:=w.heap.size);(first|simp [go_sem,aJ,bg,dE,bG,bV,dz,bW,bq] at zz|simp [go_sem] at zz|skip);(try clear aJ cu cz bq);(try clear bg dJ dK bW);(try clear dE dS dZ dz);(try clear bG di dC bV);obtain ⟨aJ,bg,dE,bG⟩:=zz;obtain ⟨cu,cz,bq⟩:=bO aJ;obtain ⟨dJ,dK,bW⟩:=bO bg;obtain ⟨dS,dZ,dz⟩:=bO dE;obtain ⟨di,dC,bV⟩:=bO bG;clear hbw2 bb
 rw [hh]
 go_upto_region 3 with fail
 refine bJ [[],[],[1],[],[0,1,2,3],[0,1,2,3,4],[0,1,2,3,4,5],[0,1,2,3,4,5],[0,1,2,3,4,5],[],[],[0,1,2,3,4,5,6,9],[0,1,2,3,4,5,7,10],[0,1,2,3,4,5,8]] [25,26,27,28,29,24,30,31,32,9,10,11] (fun l s wx=>(Below w2.heap.size w2 wx)∧(l 0=true→s 25=.func (.func F) #[] #[])∧(l 1=true→s 26=.agg (af c (.slice a c.cells.length p) (.slice b c.words.length q)))∧(l 2=true→s 27=.agg (af c (s 1001) (s 1002))∧ah wx w2.heap.size (s 1001) c.cells∧ai wx w2.heap.size (s 1002) c.words)∧(l 3=true→s 28=.agg (aa h))∧(l 4=true→False)) (by kernel_rfl) (by kernel_rfl) (by kernel_rfl) (fun s=>by (simp only [fill,gp,List.setIfInBounds_toArray,List.set_cons_zero,List.set_cons_succ];rfl)) (fun s=>⟨(Below.refl _ _).drew,nB,nB,nB,nB,nB⟩) ?_ ?_
 refine ⟨?_,?_,?_,?_,?_,?_,?_,?_,?_,?_,?_,?_,?_,?_,trivial⟩;iterate 14 (intro l s wx hl hd hn hf K hK;rotate_left)
 ·intro l s w8 hall hf
  exact ((jC hf).2 (hall 4 rfl)).elim
 ·go_simp
  refine hK.out (upd s 25 (.func (.func F) #[] #[])) _ _ (by simp [ae] <;> rfl) (kA (kX (fun _=>rfl) id) hf.out)
 ·have z:=fC bG hf.out.1
  go_simp
  refine hK.out (upd s 26 (.agg (af c (.slice a c.cells.length p) (.slice b c.words.length q)))) _ _ (by simp [ae] <;> rfl) (kB (kX (fun _=>rfl) id) hf.out)
 ·have e1:=(hf.out.2.2.1 (hd 1 rfl))
  go_simp
  go_at_call 101
  refine (qp c a b p q _ ((H1.out.below (bT dh hf.out.1)).more (Below.size (bT dh hf.out.1))) Z1.out ((H2.out.below (bT dh hf.out.1)).more (Below.size (bT dh hf.out.1))) Z2.out m1 m2).mono ?_
  rintro _ wy ⟨⟨v1,v2,rfl,X1,X2⟩,hE⟩
  refine hK.out (upd (upd (upd s 1001 (v1)) 1002 (v2)) 27 (.agg (af c v1 v2))) _ _ (by simp [ae,e1] <;> rfl) (kX (bT hf.out.1 hE) (kB (kX (fun _=>⟨rfl,ay X1 (Below.size hf.out.1),ay X2 (Below.size hf.out.1)⟩) (kA (fun _=>nU (hn 4 rfl))))) hf.out)
 ·have z:=fC dE hf.out.1
  go_simp
  refine hK.out (upd s 28 (.agg (aa h))) _ _ (by simp [ae] <;> rfl) (kC (kX (fun _=>rfl) id) hf.out)
 ·have e0:=(hf.out.2.1 (hd 0 rfl))
  have e3:=(hf.out.2.2.2.2.1 (hd 3 rfl))
  obtain ⟨e2,o1,o2⟩:=(hf.out.2.2.2.1 (hd 2 rfl))
  go_simp
  refine (Og.out _ _ w2.heap.size _ o1 o2 (Below.size hf.out.1)).mono ?_
  rintro _ wy ⟨T,sv,rfl,hE⟩
  exact ⟨rfl,T,sv,rfl,bT dh (bT hf.out.1 hE)⟩
 ·exact ((jC hf).2 (hd 4 rfl)).elim
 ·exact ((jC hf).2 (hd 4 rfl)).elim
 ·exact ((jC hf).2 (hd 4 rfl)).elim
 ·exact ((jC hf).2 (hd 4 rfl)).elim
 ·go_simp
  refine hK.out (upd s 9 (.pointer (some ⟨wx.heap.size,0,none⟩))) _ _ (by simp [ae] <;> rfl) (kX (bT hf.out.1 (bE _ _)) (kB (kX (fun h=>(let ⟨e,X1,X2⟩:=(hf.out.2.2.2.1 h);⟨e,own_below X1 (bE _ _),own_below X2 (bE _ _)⟩)) id)) hf.out)
 ·go_simp
  refine hK.out (upd s 10 (.pointer (some ⟨wx.heap.size,0,none⟩))) _ _ (by simp [ae] <;> rfl) (kX (bT hf.out.1 (bE _ _)) (kB (kX (fun h=>(let ⟨e,X1,X2⟩:=(hf.out.2.2.2.1 h);⟨e,own_below X1 (bE _ _),own_below X2 (bE _ _)⟩)) id)) hf.out)
 ·exact ((jC hf).2 (hd 4 rfl)).elim
 ·exact ((jC hf).2 (hd 4 rfl)).elim
 ·exact ((jC hf).2 (hd 4 rfl)).elim
theorem uJ (c:Ch) (h:Ha) (a b:Option Addr) (p q:Nat) (w:World) (h1:eY w w.heap.size a c.cells) (z1:a=none→p=0) (h2:eZ w w.heap.size b c.words) (z2:b=none→q=0) (l1:c.cells.length≤maxLen) (l2:c.words.length≤maxLen) :
  Calls Tryz.prog 273 #[.agg (af c (.slice a c.cells.length p) (.slice b c.words.length q)),.agg (aa h)] w fun r w'=>bQ w w' (bC c h) r:=by
 cases hc:aG c with
 | false =>
  rw [show bC c h=nothing by simp [bC,aX,hc]]
  exact pK nothing c h a b p q w h1 z1 h2 z2 fun W g1 y1 g2 y2=>mR _ c h a b p q W g1 y1 g2 y2 l1 l2 hc
 | true =>
  cases hh:bF h with
  | false =>
   rw [show bC c h=nothing by simp [bC,aX,hh]]
   exact pK nothing c h a b p q w h1 z1 h2 z2 fun W g1 y1 g2 y2=>mU _ c h a b p q W g1 y1 g2 y2 l1 l2 hc hh
  | true =>
   rcases uI c h hc hh with ⟨x,e,HT⟩|⟨e,HT⟩
   ·rw [e]
    exact pK (ku x) c h a b p q w h1 z1 h2 z2 fun W g1 y1 g2 y2=>mQ _ x c h a b p q W g1 y1 g2 y2 hc hh (fun args w=>by simp [go_sem]) HT
   ·rw [e]
    exact Iy c h a b p q w h1 z1 h2 z2 fun W g1 y1 g2 y2=>(zW _ c h a b p q W g1 y1 g2 y2 hc hh (fun args w=>by simp [go_sem]) HT)
end
section
open Go.RowKit
attribute [local simp] aI
attribute [local go_sem ↓] aH aU aM bz aN bB aA aK ax aB
theorem CB (c:Ch) (h:Ha) (a b:Option Addr) (p q:Nat) (w:World) (h1:eY w w.heap.size a c.cells) (z1:a=none→p=0) (h2:eZ w w.heap.size b c.words) (z2:b=none→q=0) (l1:c.cells.length≤maxLen) (l2:c.words.length≤maxLen) :
  Calls Tryz.prog 158 #[.agg (af c (.slice a c.cells.length p) (.slice b c.words.length q)),.agg (aa h)] w fun r w'=>r=.returned (.bool (eH (gM c h)))∧Below w.heap.size w w':=by
 rw [← JZ]
 have hp:h.pos≤0∨(1≤h.pos∧h.pos≤8)∨(9≤h.pos∧h.pos≤15)∨(16≤h.pos∧h.pos≤22)∨(23≤h.pos∧h.pos≤25)∨26≤h.pos:=by omega
 rcases hp with hp|hp|hp|hp|hp|hp
 ·rw [pF c h (.inl tO)];exact yQ c h a b p q w hp
 ·rw [pF c h (.inl tO)];exact yR c h a b p q w hp
 ·have e:nJ c h=dB c h:=by unfold nJ;rw [show dL h.pos 1 8=false by simp [dL];omega,show dL h.pos 9 15=true by simp [dL];omega];rfl
  rw [e,← mK c h _ tO (BF c h)]
  exact yN _ c h a b p q w h1 z1 h2 z2 (fun a b p q w h1 z1 h2 z2=>uu c h a b p q w h1 z1 h2 z2 l1 l2) hp
 ·have e:nJ c h=cZ c h:=by unfold nJ;rw [show dL h.pos 1 8=false by simp [dL];omega,show dL h.pos 9 15=false by simp [dL];omega,show dL h.pos 16 22=true by simp [dL];omega];rfl
  rw [e,← mK c h _ tO (BG c h)]
  exact yO _ c h a b p q w h1 z1 h2 z2 (fun a b p q w h1 z1 h2 z2=>uG c h a b p q w h1 z1 h2 z2 l1 l2) hp
 ·have e:nJ c h=bC c h:=by unfold nJ;rw [show dL h.pos 1 8=false by simp [dL];omega,show dL h.pos 9 15=false by simp [dL];omega,show dL h.pos 16 22=false by simp [dL];omega];rfl
  rw [e,← mK c h _ tO (BH c h)]
  exact yP _ c h a b p q w h1 z1 h2 z2 (fun a b p q w h1 z1 h2 z2=>uJ c h a b p q w h1 z1 h2 z2 l1 l2) hp
 ·rw [pF c h (.inr hp)];exact yS c h a b p q w hp
end
section
open Go.RowKit
attribute [local simp] aI
attribute [local go_sem ↓] aH aU aM bz aN bB aA aK ax aB
def gI (c:Ch) (h:Ha):Bool:=h.pos == 23 && eH (gM c h)
theorem oP (c:Ch) (h:Ha) (a b:Option Addr) (p q:Nat) (w:World) (h1:eY w w.heap.size a c.cells) (z1:a=none→p=0) (h2:eZ w w.heap.size b c.words) (z2:b=none→q=0) (l1:c.cells.length≤maxLen) (l2:c.words.length≤maxLen) :
  Calls Tryz.prog 107 #[.agg (af c (.slice a c.cells.length p) (.slice b c.words.length q)),.agg (aa h)] w fun r w'=>r=.returned (.bool (gI c h))∧Below w.heap.size w w':=by
 have HST:=Lib.hid fun (W:World) (hb:Below w.heap.size w W)=>CB c h a b p q W ((h1.below hb).more hb.size) z1 ((h2.below hb).more hb.size) z2 l1 l2
 obtain ⟨tb,htb⟩:∃ tb,Hid (tb=eH (gM c h)):=⟨_,rfl⟩
 rw [← htb.out] at HST
 clear h1 h2 l1 l2
 cases hp0:(h.pos == 23) with
 | false =>
  have e:gI c h=false:=by unfold gI;rw [hp0];rfl
  rw [e]
  clear e htb HST
  go_enter Tryz.func107,Tryz.ntmps107
  go_wp2
  go_ret
  exact ⟨rfl,by exact zB⟩
 | true =>
  have e:gI c h=tb:=by unfold gI;rw [hp0,htb.out];rfl
  rw [e]
  clear e htb
  go_enter Tryz.func107,Tryz.ntmps107
  go_wp2_with (go_at_call 158;refine au w zB fun bb=>?_;refine (HST.out _ bb).mono ?_;rintro _ w1 ⟨rfl,hb1⟩)
  go_ret
  exact ⟨rfl,bT bb hb1⟩
end
section
structure De where
 task:Int
 code:Int
 elem:Int
 beg:Int
 fin:Int
 reply:Int
 out:Int
structure Wo where
 ch:Ch
 hands:List Ha
 deals:List De
 now:Int
def Wo.zero:Wo:=⟨Ch.zero,[],[],0⟩
def De.zero:De:=⟨0,0,0,0,0,0,0⟩
def zX (n:Nat) (who:Int):Bool:=dL who 0 ((n:Int) - 1)
def iK (n:Nat) (now:Int) (d:De):Bool:=zX n d.task && (kK d.code d.elem d.reply && (dL d.beg 0 now && (dL d.fin 0 now && dL d.out 0 999)))
def eF (now:Int) (h:Ha):Bool:=bF h && decide (h.beg≤now)
def gN (x:Wo):Bool:=aG x.ch && (decide (1≤x.hands.length) && (decide (x.hands.length≤6) && (decide (x.deals.length≤1000) && dL x.now 0 20000)))
def dU (x:Wo):Bool:=gN x && (x.hands.all (eF x.now) && x.deals.all (iK x.hands.length x.now))
def dn (x:Wo) (who:Int):Ha:=x.hands.getD who.toNat Ha.zero
def Eg (x:Wo) (who:Int) (h:Ha):Wo:={ x with hands:=x.hands.set who.toNat h }
def LZ (x:Wo) (who:Int):Bool:=zX x.hands.length who
def stepW (x:Wo) (who:Int) (s:St):Wo × Bool :=
 if !s.2.2 || x.now == 20000 then (x,false)
 else if s.2.1.pos != 0 then ({ Eg x who s.2.1 with now:=x.now+1,ch:=s.1 },true)
 else if decide (1000≤x.deals.length) || !kK (dn x who).code (dn x who).elem s.2.1.reply then (x,false)
 else ({ Eg x who s.2.1 with now:=x.now+1,ch:=s.1,deals:=x.deals ++ [⟨who,(dn x who).code,(dn x who).elem,(dn x who).beg,x.now+1,s.2.1.reply,s.2.1.out⟩] },true)
def CE (x:Wo) (who:Int):Wo × Bool:=stepW x who (gM x.ch (dn x who))
def xy:Nat→Wo→Int→Wo × Nat
 | 0,x,_=>(x,0)
 | n+1,x,who=>if (dn x who).pos == 0 then (x,0) else if (CE x who).2 then ((xy n (CE x who).1 who).1,(xy n (CE x who).1 who).2+1) else (x,0)
def alone (x:Wo) (who most:Int):Wo × Int :=
 if dU x && LZ x who then (if dL most 0 20000 then ((xy most.toNat x who).1,(xy most.toNat x who).2) else (x,-1)) else (Wo.zero,-1)
end
section
open Go.RowKit
def fq (d:De):Array Value:=#[.int .i64 d.task,.int .i64 d.code,.int .i64 d.elem,.int .i64 d.beg,.int .i64 d.fin,.int .i64 d.reply,.int .i64 d.out]
def nN (hs:List Ha):List Value:=hs.flatMap fun h=>(aa h).toList
def nO (ds:List De):List Value:=ds.flatMap fun d=>(fq d).toList
def gB (hs:List Ha) (i j:Nat):Value:=(aa (hs.getD i Ha.zero)).getD j (.int .i64 0)
def l7 (ds:List De) (i j:Nat):Value:=(fq (ds.getD i De.zero)).getD j (.int .i64 0)
abbrev Gh (w:World) (B:Nat) (a:Option Addr) (hs:List Ha):Prop:=Seg w B a hs.length 14 (gB hs)
abbrev Jj (w:World) (B:Nat) (a:Option Addr) (ds:List De):Prop:=Seg w B a ds.length 7 (l7 ds)
abbrev zY (x:Wo) (a b d e:Option Addr) (p q r s:Nat):Value:=.agg #[.int .i64 x.ch.cap,.int .i64 x.ch.sent,.int .i64 x.ch.got,.int .i64 x.ch.fin,.slice a x.ch.cells.length p,.slice b x.ch.words.length q,.slice d x.hands.length r,.slice e x.deals.length s,.int .i64 x.now]
theorem Fp (hs:List Ha):(nN hs).length=hs.length*14:=by
 induction hs with
 | nil=>rfl
 | cons c cs ih=>simp [nN,aa] at *;omega
theorem Fq (ds:List De):(nO ds).length=ds.length*7:=by
 induction ds with
 | nil=>rfl
 | cons c cs ih=>simp [nO,fq] at *;omega
theorem pM:∀ (hs:List Ha) (i j:Nat),i<hs.length→j<14→(nN hs)[i*14+j]?=some (gB hs i j)
 | [],i,j,hi,_=>by simp at hi
 | c :: cs,0,j,_,hj=>by
  have e:nN (c :: cs)=(aa c).toList ++ nN cs:=by simp [nN]
  rw [e,List.getElem?_append_left (by simp [lJ];omega)]
  simp [gB,Array.getD,lJ,hj]
 | c :: cs,i+1,j,hi,hj=>by
  have h:=pM cs i j (by simpa using hi) hj
  have e:nN (c :: cs)=(aa c).toList ++ nN cs:=by simp [nN]
  rw [e,List.getElem?_append_right (by simp [lJ];omega)]
  have e2:(i+1)*14+j - (aa c).toList.length=i*14+j:=by simp [lJ];omega
  rw [e2,h]
  simp [gB]
theorem pO:∀ (hs:List De) (i j:Nat),i<hs.length→j<7→(nO hs)[i*7+j]?=some (l7 hs i j)
 | [],i,j,hi,_=>by simp at hi
 | c :: cs,0,j,_,hj=>by
  have e:nO (c :: cs)=(fq c).toList ++ nO cs:=by simp [nO]
  rw [e,List.getElem?_append_left (by simp [fq];omega)]
  simp [l7,Array.getD,fq,hj]
 | c :: cs,i+1,j,hi,hj=>by
  have h:=pO cs i j (by simpa using hi) hj
  have e:nO (c :: cs)=(fq c).toList ++ nO cs:=by simp [nO]
  rw [e,List.getElem?_append_right (by simp [fq];omega)]
  have e2:(i+1)*7+j - (fq c).toList.length=i*7+j:=by simp [fq];omega
  rw [e2,h]
  simp [l7]
abbrev CF (w:World) (lo:Nat) (v:Value) (hs:List Ha):Prop:=w.ownsRow lo 49 14 v hs.length (nN hs)
abbrev CG (w:World) (lo:Nat) (v:Value) (ds:List De):Prop:=w.ownsRow lo 44 7 v ds.length (nO ds)
theorem xz {w:World} {lo:Nat} {t:TypeId} {n k:Nat} {v:Value} {xs:List Value} {f:Nat→Nat→Value} (h:w.ownsRow lo t k v n xs) (hf:∀ i j,i<n→j<k→xs[i*k+j]?=some (f i j)):∃ (a:Option Addr) (cap:Nat),v=.slice a n cap∧Seg w w.heap.size a n k f:=by
 rcases h.2 with ⟨rfl,h0⟩|⟨g,cap,cur,rfl,_,hg,_⟩
 ·exact ⟨none,0,by rw [h0],.inl h0⟩
 ·refine ⟨_,cap,rfl,.inr ⟨g,0,rfl,(Array.getElem?_eq_some_iff.1 hg).1,fun i j hi hj=>?_⟩⟩
  have:=h.cells (g:=g) rfl (i*k+j) _ (hf i j hi hj)
  rw [← this]
  congr 1
  by_cases e:i*k+j=0 <;> simp [Addr.add,e] <;> omega
theorem CF.seg {w:World} {lo:Nat} {v:Value} {hs:List Ha} (h:CF w lo v hs):∃ (a:Option Addr) (cap:Nat),v=.slice a hs.length cap∧Seg w w.heap.size a hs.length 14 (gB hs):=xz h fun i j hi hj=>pM hs i j hi hj
theorem CG.seg {w:World} {lo:Nat} {v:Value} {ds:List De} (h:CG w lo v ds):∃ (a:Option Addr) (cap:Nat),v=.slice a ds.length cap∧Seg w w.heap.size a ds.length 7 (l7 ds):=xz h fun i j hi hj=>pO ds i j hi hj
variable {w:World} {b o:Nat}
theorem lV (x:Ha) (h:∀ j,j<14→w.cell? ⟨b,o+j,none⟩=some ((aa x).getD j (.int .i64 0))):(oH (.pointer (some ⟨b,o,none⟩))).run Tryz.prog w=.ok (.agg (aa x)) w:=by
 have h0:=h 0 tO
 have h1:=h 1 tO
 have h2:=h 2 tO
 have h3:=h 3 tO
 have h4:=h 4 tO
 have h5:=h 5 tO
 have h6:=h 6 tO
 have h7:=h 7 tO
 have h8:=h 8 tO
 have h9:=h 9 tO
 have h10:=h 10 tO
 have h11:=h 11 tO
 have h12:=h 12 tO
 have MJ:=h 13 tO
 simp [aa,Array.getD] at h0 h1 h2 h3 h4 h5 h6 h7 h8 h9 h10 h11 h12 MJ
 simp [oH,aa,go_sem, *]
end
section
open Go.RowKit
theorem CJ (n:Nat) (who:Int) (B:Nat) (d:Option Addr) (r:Nat) (w:World) (x6:w.cell? ⟨B,6,none⟩=some (.slice d n r)) (hm:n≤1099511627776) :
  Calls Tryz.prog 50 #[.pointer (some ⟨B,0,none⟩),.int .i64 who] w fun r w'=>r=.returned (.bool (zX n who))∧w=w':=by
 go_enter Tryz.func50,Tryz.ntmps50
 go_wp2_with (go_at_call 45;refine (fM _ _ _).mono ?_;rintro _ _ ⟨rfl,rfl⟩)
 go_ret
 exact ⟨rfl,rfl⟩
end
end Go.Proofs.YtffhjmepfojhnaaGreat
