/-
  The program's telling of a word to a waiter; lists lie in memory and hold at most 2 ^ 40 elements.
-/
import Derived.Deep.AppendLies
import Derived.Test.YtffhjmepfojhnaaGreatR14
import Derived.Test.YtffhjmepfojhnaaGreatR01
import Derived.Test.YtffhjmepfojhnaaGreatR09
import Derived.BigRegion
import Derived.Deep.DeepCutAuto
import Derived.Test.YtffhjmepfojhnaaGreatR05
import Derived.Test.YtffhjmepfojhnaaGreatR11
set_option maxRecDepth 100000
set_option maxHeartbeats 2000000
set_option linter.unusedSimpArgs false
set_option linter.unusedVariables false
namespace Go.Proofs.YtffhjmepfojhnaaGreat
section
open Go.RowKit
theorem Dy (a:Option Addr) (n p:Nat) (v:Int) (w:World) :
  Calls Tryz.prog 118 #[.slice a n p,.int .i64 v] w fun r w'=>r=.returned (.func (.func 167) #[] #[.pointer (some ⟨w.heap.size,0,none⟩),.pointer (some ⟨w.heap.size+1,0,none⟩)])∧w'.cell? ⟨w.heap.size,0,none⟩=some (.slice a n p)∧w'.cell? ⟨w.heap.size+1,0,none⟩=some (.int .i64 v)∧Below w.heap.size w w':=by
 go_enter Tryz.func118,Tryz.ntmps118
 go_wp2
 go_ret
 exact ⟨rfl,by simp [go_sem],by simp [go_sem],by exact zB⟩
theorem JI (c:Ch) (v x:Int) (a b:Option Addr) (p q:Nat) (w:World) (h1:eY w w.heap.size a c.cells) (z1:a=none→p=0) (h2:eQ w w.heap.size b c.words) (z2:b=none→q=0) (m1:c.cells.length≤1099511627776) (m2:c.words.length≤1099511627776) :
  Calls Tryz.prog 68 #[.agg #[.int .i64 c.cap,.int .i64 c.sent,.int .i64 c.got,.int .i64 c.fin,.slice a c.cells.length p,.slice b c.words.length q],.int .i64 v,.int .i64 x] w fun r w' =>
   (∃ v1 v2,r=.returned (.tuple #[.agg #[.int .i64 (told c v x).cap,.int .i64 (told c v x).sent,.int .i64 (told c v x).got,.int .i64 (told c v x).fin,v1,v2],.bool (Bi c v x)])∧ag w' w.heap.size v1 (told c v x).cells∧ai w' w.heap.size v2 (told c v x).words)∧Below w.heap.size w w':=by
 have H1:=Lib.hid h1
 have H2:=Lib.hid h2
 have Z1:=Lib.hid z1
 have Z2:=Lib.hid z2
 have n1:c.cells.length≤maxLen:=by unfold maxLen;omega
 have n2:c.words.length≤maxLen:=by unfold maxLen;omega
 clear h1 h2 z1 z2
 by_cases hc:aK c=true
 ·obtain ⟨e1,e2⟩:=Bj (v:=v) (x:=x) hc
  obtain ⟨f1,f2,f3,f4,f5⟩:=ma c v x
  have E:=Lib.hid (And.intro e1 e2)
  have FF:=Lib.hid (ma c v x)
  clear e1 e2 f1 f2 f3 f4 f5
  go_enter Tryz.func68,Tryz.ntmps68
  go_wp2_with fail;refine ax w zB fun bb=>?_;refine (fZ c a b p q _ (aT H1 bb) (aT H2 bb) n1 n2).mono ?_;rintro _ w1 ⟨rfl,ah⟩;have aW:=bT bb ah;have ay:=ah.size;(try simp at ay);have zz:=And.intro (Fg ah (b:=w.heap.size+1)) <| Fg ah (b:=w.heap.size);(try simp [go_sem] at zz);replace bX:=zz;clear zz ah bb
  rw [hc]
  go_wp2_with fail;refine ax w zB fun bb=>?_;refine (lK c a b p q _ (aT H1 bb) Z1.out (aT H2 bb) Z2.out m1 m2).mono ?_;rintro _ w2 ⟨⟨v1,v2,rfl,o1,o2⟩,hbw2⟩;have dE:=bT bb hbw2;have bu:=hbw2.size;(try simp at bu);have zz:=And.intro (Fg hbw2 (b:=w.heap.size+1)) <| Fg hbw2 (b:=w.heap.size);(first|simp [go_sem,bX] at zz|simp [go_sem] at zz|skip);replace bX:=zz;clear zz hbw2 bb
  try simp at o1 o2
  have O1:=Lib.hid o1
  have O2:=Lib.hid o2
  obtain ⟨va,vc,rfl,_⟩:=ag.seg o1
  obtain ⟨vb,vd,rfl,_⟩:=ai.seg o2
  clear o1 o2
  have o1:=O1.out
  have o2:=O2.out
  go_wp2_with fail;refine ax w zB fun bb=>?_;refine ax w2 zB fun bk=>?_;refine (Dy _ _ _ _ _).mono ?_;rintro _ w3 ⟨rfl,d1,d2,aO⟩;have ig:=bT bb aO;have df:=aO.size;(try simp at df);have zz:=And.intro (Fg aO (b:=w2.heap.size)) <| And.intro (Fg aO (b:=w.heap.size+1)) <| Fg aO (b:=w.heap.size);(first|simp [go_sem,bX] at zz|simp [go_sem] at zz|skip);replace bX:=zz;clear zz;have vG:=bT bk aO;clear aO bb bk
  simp at d1 d2
  have q1:=own_below o1 vG
  have q2:=own_below o2 vG
  have b2:=fun j (hj:(Value.slice vb c.words.length vd).ownBlock=some j)=>o2.lt j hj
  have M5:some (w.heap.size+1)≠(Value.slice vb c.words.length vd).ownBlock:=fun e=>by have:=(b2 _ e.symm).1;omega
  have M6:some w2.heap.size≠(Value.slice vb c.words.length vd).ownBlock:=fun e=>by have:=(b2 _ e.symm).2;omega
  have Oc:some w.heap.size≠(Value.slice vb c.words.length vd).ownBlock:=fun e=>by have:=(b2 _ e.symm).1;omega
  go_wp2_with fail
  go_region_with (first|(refine (Bh c v x (w2.heap.size+1) (w2.heap.size+1+1) (.slice vb c.words.length vd) w1.heap.size _ (zO q2 o2) (by simpa [go_sem] using d1) (by simpa [go_sem] using d2) m2).mono ?_;rintro _ w4 ⟨rfl,p2,hg4⟩;have iw:=hg4.size;(try (simp at iw));have zz:=And.intro (fun o=>hg4.cell_far ⟨w2.heap.size,o,none⟩ tS (by assumption)) <| And.intro (fun o=>hg4.frozen_far ⟨w2.heap.size,o,none⟩ tS (by assumption)) <| And.intro (fun o=>hg4.cell_far ⟨w.heap.size+1,o,none⟩ tS (by assumption)) <| And.intro (fun o=>hg4.frozen_far ⟨w.heap.size+1,o,none⟩ tS (by assumption)) <| And.intro (fun o=>hg4.cell_far ⟨w.heap.size,o,none⟩ tS (by assumption)) <| fun o=>hg4.frozen_far ⟨w.heap.size,o,none⟩ tS (by assumption);(try simp [go_sem] at zz);(try clear Od Oe);(try clear di dz);(try clear dV eD);obtain ⟨Od,Oe,di,dz,dV,eD⟩:=zz;(try clear Gz);have Gz:w2.heap.size<w4.heap.size:=tO;(try clear bZ);have bZ:w.heap.size+1<w4.heap.size:=tO;(try clear dJ);have dJ:w.heap.size<w4.heap.size:=tO;have p1:=(World.ownsRow.drew q1).kept hg4 (xX q1 q2);have hB4:Below w.heap.size w w4:=iE zB hg4 tS (fun k hk=>by have:=(b2 k hk).1;omega)))
  all_goals go_wp2
  all_goals (obtain ⟨e1,e2⟩:=E.out;obtain ⟨f1,f2,f3,f4,f5⟩:=FF.out;rw [e1,e2,f1,f2,f3,f4,f5])
  all_goals (refine bodyPost_ret (v:=.tuple #[.agg #[.int .i64 c.cap,.int .i64 c.sent,.int .i64 c.got,.int .i64 c.fin,.slice va c.cells.length vc,.slice vb c.words.length vd],.bool (fo c v x)]) (by simp [results,Tryz.results68,go_sem, *]) rfl ⟨⟨_,_,rfl,av (lo:=w1.heap.size) ?_ tO,av (lo:=w1.heap.size) ?_ tO⟩,by exact zB⟩)
  all_goals (have P1:ag _ _ _ _:=p1)
  all_goals first|(repeat first|with_reducible exact p2|with_reducible refine zR ?_ _|with_reducible refine vv ?_|((with_reducible first|refine aS ?_ ?_ _|refine gp ?_ ?_);rotate_left;focus first|(refine own_ne o2 ?_;(try dsimp only);omega)|(refine gI o2 ?_;(try dsimp only);omega)))|skip
  all_goals first|(repeat first|with_reducible exact p1|with_reducible refine zR ?_ _|with_reducible refine vv ?_|((with_reducible first|refine aS ?_ ?_ _|refine gp ?_ ?_);rotate_left;focus first|(refine own_ne o1 ?_;(try dsimp only);omega)|(refine gI o1 ?_;(try dsimp only);omega)))|skip
 ·have hc2:aK c=false:=by simpa using hc
  obtain ⟨e1,e2⟩:=MG (v:=v) (x:=x) hc2
  have E:=Lib.hid (And.intro e1 e2)
  clear e1 e2 hc
  go_enter Tryz.func68,Tryz.ntmps68
  go_wp2_with fail;refine ax w zB fun bb=>?_;refine (fZ c a b p q _ (aT H1 bb) (aT H2 bb) n1 n2).mono ?_;rintro _ w1 ⟨rfl,ah⟩;have aW:=bT bb ah;have ay:=ah.size;(try simp at ay);have zz:=And.intro (Fg ah (b:=w.heap.size+1)) <| Fg ah (b:=w.heap.size);(try simp [go_sem] at zz);replace bX:=zz;clear zz ah bb
  rw [hc2]
  go_wp2
  rw [E.out.1,E.out.2]
  refine bodyPost_ret (v:=.tuple #[.agg #[.int .i64 Ch.zero.cap,.int .i64 Ch.zero.sent,.int .i64 Ch.zero.got,.int .i64 Ch.zero.fin,.slice none 0 0,.slice none 0 0],.bool false]) (by simp [results,Tryz.results68,go_sem,Ch.zero, *]) rfl ⟨⟨_,_,rfl,World.ownsRow_nil _ _ _ _,World.ownsRow_nil _ _ _ _⟩,by exact zB⟩
end
section
open Go.RowKit
theorem JJ {c:Ch} (h:aK c=false):nQ c=Ch.zero∧uo c=0:=by simp [nQ,uo,h]
theorem uu {c:Ch} (h:aK c=true) (h2:80≤c.words.length):nQ c=c∧uo c=0:=by simp [nQ,uo,h,h2]
theorem uw {c:Ch} (h:aK c=true) (h2:¬ 80≤c.words.length):nQ c={ c with words:=c.words ++ [0] }∧uo c=c.words.length+1:=by simp [nQ,uo,h,h2]
theorem uy (c:Ch) (a b:Option Addr) (p q:Nat) (w:World) (h1:eY w w.heap.size a c.cells) (z1:a=none→p=0) (h2:eQ w w.heap.size b c.words) (z2:b=none→q=0) (m1:c.cells.length≤1099511627776) (m2:c.words.length≤1099511627776) :
  Calls Tryz.prog 257 #[.agg #[.int .i64 c.cap,.int .i64 c.sent,.int .i64 c.got,.int .i64 c.fin,.slice a c.cells.length p,.slice b c.words.length q]] w fun r w' =>
   (∃ v1 v2,r=.returned (.tuple #[.agg #[.int .i64 (nQ c).cap,.int .i64 (nQ c).sent,.int .i64 (nQ c).got,.int .i64 (nQ c).fin,v1,v2],.int .i64 (uo c)])∧ag w' w.heap.size v1 (nQ c).cells∧ai w' w.heap.size v2 (nQ c).words)∧Below w.heap.size w w':=by
 have H1:=Lib.hid h1
 have H2:=Lib.hid h2
 have Z1:=Lib.hid z1
 have Z2:=Lib.hid z2
 have n1:c.cells.length≤maxLen:=by unfold maxLen;omega
 have n2:c.words.length≤maxLen:=by unfold maxLen;omega
 clear h1 h2 z1 z2
 by_cases hc:aK c=true
 ·by_cases hf:80≤c.words.length
  ·have R9:c.words.length=80:=by
    have:=hc
    simp [aK,fq] at this
    omega
   have E:=Lib.hid (uu hc hf)
   have hfi:(80:Int)≤(c.words.length:Int):=by omega
   have VF:Hid ((c.words.length:Int)=80):=Lib.hid tO
   clear R9
   go_enter Tryz.func257,Tryz.ntmps257
   go_wp2_with fail;refine ax w zB fun bb=>?_;refine (fZ c a b p q _ (aT H1 bb) (aT H2 bb) n1 n2).mono ?_;rintro _ w1 ⟨rfl,ah⟩;have aW:Below w.heap.size w w1:=bT bb ah;have ay:=ah.size;(try simp at ay);have zz:=And.intro (fun o=>ah.cell (p:=⟨w.heap.size+1,o,none⟩) tS) <| And.intro (fun o=>ah.frozen (p:=⟨w.heap.size+1,o,none⟩) tS) <| And.intro (fun o=>ah.cell (p:=⟨w.heap.size,o,none⟩) tS) <| fun o=>ah.frozen (p:=⟨w.heap.size,o,none⟩) tS;(try simp [go_sem] at zz);(try clear di dz);(try clear dV eD);obtain ⟨di,dz,dV,eD⟩:=zz;(try clear bZ);have bZ:w.heap.size+1<w1.heap.size:=tO;(try clear dJ);have dJ:w.heap.size<w1.heap.size:=tO;clear ah bb
   rw [hc]
   go_wp2_with fail;refine ax w zB fun bb=>?_;refine (lK c a b p q _ (aT H1 bb) Z1.out (aT H2 bb) Z2.out m1 m2).mono ?_;rintro _ w2 ⟨⟨v1,v2,rfl,o1,o2⟩,hbw2⟩;have dE:Below w.heap.size w w2:=bT bb hbw2;have bu:=hbw2.size;(try simp at bu);have zz:=And.intro (fun o=>hbw2.cell (p:=⟨w.heap.size+1,o,none⟩) tS) <| And.intro (fun o=>hbw2.frozen (p:=⟨w.heap.size+1,o,none⟩) tS) <| And.intro (fun o=>hbw2.cell (p:=⟨w.heap.size,o,none⟩) tS) <| fun o=>hbw2.frozen (p:=⟨w.heap.size,o,none⟩) tS;(first|simp [go_sem,di,dz,dV,eD,dJ,bZ] at zz|simp [go_sem,di,dV,dJ,bZ] at zz|simp [go_sem] at zz|skip);(try clear di dz);(try clear dV eD);obtain ⟨di,dz,dV,eD⟩:=zz;(try clear bZ);have bZ:w.heap.size+1<w2.heap.size:=tO;(try clear dJ);have dJ:w.heap.size<w2.heap.size:=tO;clear hbw2 bb
   try simp at o1 o2
   have O1:=Lib.hid o1
   have O2:=Lib.hid o2
   obtain ⟨va,vc,rfl,_⟩:=ag.seg o1
   obtain ⟨vb,vd,rfl,_⟩:=ai.seg o2
   clear o1 o2
   have hfe:=VF.out
   go_wp2_with fail
   have o1:=O1.out
   have o2:=O2.out
   obtain ⟨e1,e2⟩:=E.out
   rw [e1,e2]
   refine bodyPost_ret (v:=.tuple #[.agg #[.int .i64 c.cap,.int .i64 c.sent,.int .i64 c.got,.int .i64 c.fin,.slice va c.cells.length vc,.slice vb c.words.length vd],.int .i64 0]) (by simp [results,Tryz.results257,go_sem, *]) rfl ⟨⟨_,_,rfl,av (lo:=w1.heap.size) ?_ tO,av (lo:=w1.heap.size) ?_ tO⟩,by exact zB⟩
   ·exact zO o1 o1
   ·exact zO o2 o2
  ·have E:=Lib.hid (uw hc hf)
   have hfi:¬ (80:Int)≤(c.words.length:Int):=by omega
   have hfe:(c.words.length:Int)≠80:=by omega
   obtain ⟨i0,hi0,hz0,hz1,hz2⟩:=info_parts ku
   go_enter Tryz.func257,Tryz.ntmps257
   go_wp2_with fail;refine ax w zB fun bb=>?_;refine (fZ c a b p q _ (aT H1 bb) (aT H2 bb) n1 n2).mono ?_;rintro _ w1 ⟨rfl,ah⟩;have aW:Below w.heap.size w w1:=bT bb ah;have ay:=ah.size;(try simp at ay);have zz:=And.intro (fun o=>ah.cell (p:=⟨w.heap.size+1,o,none⟩) tS) <| And.intro (fun o=>ah.frozen (p:=⟨w.heap.size+1,o,none⟩) tS) <| And.intro (fun o=>ah.cell (p:=⟨w.heap.size,o,none⟩) tS) <| fun o=>ah.frozen (p:=⟨w.heap.size,o,none⟩) tS;(try simp [go_sem] at zz);(try clear di dz);(try clear dV eD);obtain ⟨di,dz,dV,eD⟩:=zz;(try clear bZ);have bZ:w.heap.size+1<w1.heap.size:=tO;(try clear dJ);have dJ:w.heap.size<w1.heap.size:=tO;clear ah bb
   rw [hc]
   go_wp2_with fail;refine ax w zB fun bb=>?_;refine (lK c a b p q _ (aT H1 bb) Z1.out (aT H2 bb) Z2.out m1 m2).mono ?_;rintro _ w2 ⟨⟨v1,v2,rfl,o1,o2⟩,hbw2⟩;have dE:Below w.heap.size w w2:=bT bb hbw2;have bu:=hbw2.size;(try simp at bu);have zz:=And.intro (fun o=>hbw2.cell (p:=⟨w.heap.size+1,o,none⟩) tS) <| And.intro (fun o=>hbw2.frozen (p:=⟨w.heap.size+1,o,none⟩) tS) <| And.intro (fun o=>hbw2.cell (p:=⟨w.heap.size,o,none⟩) tS) <| fun o=>hbw2.frozen (p:=⟨w.heap.size,o,none⟩) tS;(first|simp [go_sem,di,dz,dV,eD,dJ,bZ] at zz|simp [go_sem,di,dV,dJ,bZ] at zz|simp [go_sem] at zz|skip);(try clear di dz);(try clear dV eD);obtain ⟨di,dz,dV,eD⟩:=zz;(try clear bZ);have bZ:w.heap.size+1<w2.heap.size:=tO;(try clear dJ);have dJ:w.heap.size<w2.heap.size:=tO;clear hbw2 bb
   try simp at o1 o2
   have O1:=Lib.hid o1
   have O2:=Lib.hid o2
   obtain ⟨va,vc,rfl,_⟩:=ag.seg o1
   obtain ⟨vb,vd,rfl,_⟩:=ai.seg o2
   clear o1 o2
   have o1:=O1.out
   have o2:=O2.out
   have b2:=fun j (hj:(Value.slice vb c.words.length vd).ownBlock=some j)=>o2.lt j hj
   have mw:∀ j,j<w1.heap.size∨w2.heap.size≤j→some j≠(Value.slice vb c.words.length vd).ownBlock:=fun j hj e=>by have:=b2 _ e.symm;omega
   have V5:=mw w.heap.size tO
   have V6:=mw (w.heap.size+1) tO
   have V7:=mw w2.heap.size tO
   go_wp2_with (at_builtin;refine wpList_append_lies _ rfl _ _ 29 rfl w1.heap.size 2 i0 _ 1 8 Tryz.underlying29 hi0 hz0 hz1 hz2 rfl (by decide) (.slice vb c.words.length vd) c.words.length (ints c.words) rfl (World.ownsRow.alloc (World.ownsRow.alloc o2 _) _) ⟨w2.heap.size+1,0,none⟩ 1 1 [.int .i64 0] rfl rfl ?c2 (by simp [Value.oneCell']) tO ?c3 ?c4 ?c5 (w2.heap.size+1+1) (by simp) ?_)
   case c2=>have:=cell_one_new (w2.alloc (.cells #[.int .i64 c.cap,.int .i64 c.sent,.int .i64 c.got,.int .i64 c.fin,.slice va c.cells.length vc,.slice vb c.words.length vd] 31)) (.int .i64 0) 2;simpa using this
   case c3=>unfold maxLen;omega
   case c4=>omega
   case c5=>simp;omega
   intro Le q4 w4 o4 g4 hat P9
   have Gz:w2.heap.size<w2.heap.size+1:=by omega
   have iw:=g4.size;(try (simp at iw));have zz:=And.intro (fun o=>g4.cell_far ⟨w2.heap.size,o,none⟩ tS (by assumption)) <| And.intro (fun o=>g4.frozen_far ⟨w2.heap.size,o,none⟩ tS (by assumption)) <| And.intro (fun o=>g4.cell_far ⟨w.heap.size+1,o,none⟩ tS (by assumption)) <| And.intro (fun o=>g4.frozen_far ⟨w.heap.size+1,o,none⟩ tS (by assumption)) <| And.intro (fun o=>g4.cell_far ⟨w.heap.size,o,none⟩ tS (by assumption)) <| fun o=>g4.frozen_far ⟨w.heap.size,o,none⟩ tS (by assumption);(first|simp [go_sem,di,dz,dV,eD,dJ,Gz,bZ] at zz|simp [go_sem,di,dV,dJ,Gz,bZ] at zz|simp [go_sem] at zz|skip);(try clear Od Oe);(try clear di dz);(try clear dV eD);obtain ⟨Od,Oe,di,dz,dV,eD⟩:=zz;(try clear Gz);have Gz:w2.heap.size<w4.heap.size:=tO;(try clear bZ);have bZ:w.heap.size+1<w4.heap.size:=tO;(try clear dJ);have dJ:w.heap.size<w4.heap.size:=tO
   have p1:ag w4 w1.heap.size (.slice va c.cells.length vc) c.cells:=((World.ownsRow.alloc (World.ownsRow.alloc o1 _) _)).kept g4 (xX o1 o2)
   have p2:ai w4 w1.heap.size (.slice (some ⟨Le,0,none⟩) (c.words.length+1) q4) (c.words ++ [0]):=ai.snoc o4
   have hgb:∀ j,j<w1.heap.size∨(w2.heap.size≤j∧j<w2.heap.size+1)→(Value.slice (some ⟨Le,0,none⟩) (c.words.length+1) q4).ownBlock≠some j:=fun j h1 e=>by
    have e2:Le=j:=by simpa [Value.ownBlock] using e
    rcases hat with hat|hat
    ·have:=b2 _ hat;omega
    ·omega
   have hB4:Below w.heap.size w w4:=iE zB g4 tS (fun k hk=>by have:=(b2 k hk).1;omega)
   clear o4 g4
   go_wp2_with fail
   go_region
   all_goals go_wp2_with fail
   all_goals (obtain ⟨e1,e2⟩:=E.out;rw [e1,e2])
   all_goals refine bodyPost_ret (v:=.tuple #[.agg #[.int .i64 c.cap,.int .i64 c.sent,.int .i64 c.got,.int .i64 c.fin,.slice va c.cells.length vc,.slice (some ⟨Le,0,none⟩) (c.words.length+1) q4],.int .i64 (c.words.length+1)]) (by simp [results,Tryz.results257,go_sem, *]) rfl ⟨⟨_,_,rfl,av (lo:=w1.heap.size) ?_ tO,av (lo:=w1.heap.size) ?_ tO⟩,by exact zB⟩
   all_goals first|(repeat first|with_reducible exact p1|with_reducible refine zR ?_ _|with_reducible refine vv ?_|((with_reducible first|refine aS ?_ ?_ _|refine gp ?_ ?_);rotate_left;focus first|(refine own_ne o1 ?_;(try dsimp only);omega)|(refine gI o1 ?_;(try dsimp only);omega)))|skip
   all_goals (first|(repeat first|with_reducible exact p2|with_reducible refine zR ?_ _|with_reducible refine vv ?_|((with_reducible first|refine aS ?_ ?_ _|refine gp ?_ ?_);rotate_left;focus first|(refine own_ne p2 ?_;(try dsimp only);omega)|(refine gI p2 ?_;(try dsimp only);omega)|exact hgb _ (by (try dsimp only) <;> omega)))|skip)
 ·have hc2:aK c=false:=by simpa using hc
  have E:=Lib.hid (JJ hc2)
  clear hc
  go_enter Tryz.func257,Tryz.ntmps257
  go_wp2_with fail;refine ax w zB fun bb=>?_;refine (fZ c a b p q _ (aT H1 bb) (aT H2 bb) n1 n2).mono ?_;rintro _ w1 ⟨rfl,ah⟩;have aW:Below w.heap.size w w1:=bT bb ah;have ay:=ah.size;(try simp at ay);have zz:=And.intro (fun o=>ah.cell (p:=⟨w.heap.size+1,o,none⟩) tS) <| And.intro (fun o=>ah.frozen (p:=⟨w.heap.size+1,o,none⟩) tS) <| And.intro (fun o=>ah.cell (p:=⟨w.heap.size,o,none⟩) tS) <| fun o=>ah.frozen (p:=⟨w.heap.size,o,none⟩) tS;(try simp [go_sem] at zz);(try clear di dz);(try clear dV eD);obtain ⟨di,dz,dV,eD⟩:=zz;(try clear bZ);have bZ:w.heap.size+1<w1.heap.size:=tO;(try clear dJ);have dJ:w.heap.size<w1.heap.size:=tO;clear ah bb
  rw [hc2]
  go_wp2
  rw [E.out.1,E.out.2]
  refine bodyPost_ret (v:=.tuple #[.agg #[.int .i64 Ch.zero.cap,.int .i64 Ch.zero.sent,.int .i64 Ch.zero.got,.int .i64 Ch.zero.fin,.slice none 0 0,.slice none 0 0],.int .i64 0]) (by simp [results,Tryz.results257,go_sem,Ch.zero, *]) rfl ⟨⟨_,_,rfl,World.ownsRow_nil _ _ _ _,World.ownsRow_nil _ _ _ _⟩,by exact zB⟩
end
section
open Go.RowKit
attribute [local simp] aC
attribute [local go_sem ↓] aB aU aL bB aM bC aG aN au aF
theorem y7 (c:Ch) (h:Ha) (v1 v2:Value) (lo:Nat) (w:World) (h1:ag w lo v1 c.cells) (h2:ai w lo v2 c.words) (hs:c.sent=40) :
  cu 239 c h v1 v2 lo w ((c,aP 4 0,true)):=by
 obtain ⟨a1,q1,a2,q2,rfl,rfl,O1,O2,b1,b2⟩:=ql h1 h2
 clear h1 h2
 have o1:=O1.out
 have o2:=O2.out
 go_enter Tryz.func239,Tryz.ntmps239
 go_wp2_with fail
 go_region_held3 (fun w'=>hp w' w.heap.size=some (.cells (af c (.slice a1 c.cells.length q1) (.slice a2 c.words.length q2)) 31)∧hp w' (w.heap.size+1)=some (.cells (aa h) 49))
  (first|(simp [*,go_sem]))
  (first|((go_at_call 48;refine ax w zB fun bb=>?_;refine (fT _ _ _).mono ?_;rintro _ w1 ⟨rfl,ah⟩;obtain ⟨aW,ay,zz⟩:=dZ bb ah (b:=w.heap.size);(try simp at ay);(try simp [go_sem] at zz);replace bX:=dF zz;clear zz;have dG:=aW;clear ah bb);have p1:=own_below o1 dG;have p2:=own_below o2 dG))
 go_wp2
 refine rE Tryz.results239 rfl (az c (.slice a1 c.cells.length q1) (.slice a2 c.words.length q2) tZ) rfl (aj (aP 4 0) (by simp [go_sem, *] <;> first|rfl|simp [bM,anew,hci])) ⟨⟨_,_,rfl,?_,?_,ak _ _,ak _ _⟩,dx zB⟩
 ·exact zO p1 o1
 ·exact zO p2 o2
theorem y9 (c:Ch) (h:Ha) (v1 v2:Value) (lo:Nat) (w:World) (h1:ag w lo v1 c.cells) (h2:ai w lo v2 c.words) (hs:¬ c.sent=40) (CY:0≤c.sent∧c.sent≤40) :
  cu 239 c h v1 v2 lo w (({ c with sent:=c.sent+1 },{ h with cell:=c.sent,pos:=2 },true)):=by
 obtain ⟨a1,q1,a2,q2,rfl,rfl,O1,O2,b1,b2⟩:=ql h1 h2
 clear h1 h2
 have o1:=O1.out
 have o2:=O2.out
 go_enter Tryz.func239,Tryz.ntmps239
 go_wp2_with fail
 go_region_held3 (fun w'=>hp w' w.heap.size=some (.cells (af { c with sent:=c.sent+1 } (.slice a1 c.cells.length q1) (.slice a2 c.words.length q2)) 31)∧hp w' (w.heap.size+1)=some (.cells (aa { h with cell:=c.sent }) 49))
  (first|(simp [*,go_sem]))
  (first|((go_at_call 247;refine ax w zB fun bb=>?_;refine (cZ _ _ _).mono ?_;rintro _ w1 ⟨rfl,ah⟩;obtain ⟨aW,ay,zz⟩:=dZ bb ah (b:=w.heap.size);(try simp at ay);(try simp [go_sem] at zz);replace bX:=dF zz;clear zz;have dG:=aW;clear ah bb);have p1:=own_below o1 dG;have p2:=own_below o2 dG))
 go_wp2
 refine rE Tryz.results239 rfl (az { c with sent:=c.sent+1 } (.slice a1 c.cells.length q1) (.slice a2 c.words.length q2) tZ) rfl (aj { h with cell:=c.sent,pos:=2 } (by simp [go_sem, *] <;> first|rfl|simp [bM,anew,hci])) ⟨⟨_,_,rfl,?_,?_,ak _ _,ak _ _⟩,dx zB⟩
 ·exact zO p1 o1
 ·exact zO p2 o2
def Dz (c:Ch) (h:Ha):St:=if (je c h).2 then (c,(je c h).1,true) else nothing
end
section
open Go.RowKit
attribute [local simp] aC
attribute [local go_sem ↓] aB aU aL bB aM bC aG aN au aF
theorem mM {w:World} {lo:Nat} {e:TypeId} {k n p m:Nat} {a:Option Addr} {xs:List Value} (h:w.ownsRow lo e k (.slice a n p) m xs) (ha:a=none):p=0:=by
 rcases h.2 with ⟨h1,_⟩|⟨g,cap,cur,h1,_⟩
 ·simp at h1;exact h1.2.2
 ·subst ha;simp at h1
theorem uz (c:Ch) (v x:Int) (a b:Value):af (dN c v x) a b=af c a b:=by unfold dN;split <;> rfl
theorem jh {c:Ch} (e:aK c=true):c.cells.length=40∧c.words.length≤80:=by
 simp [aK,fq] at e
 omega
theorem xB (c:Ch) (v x:Int) (v1 v2:Value) (lo:Nat) (w:World) (h1:ag w lo v1 c.cells) (h2:ai w lo v2 c.words) (hc:aK c=true) :
  Calls Tryz.prog 68 #[.agg (af c v1 v2),.int .i64 v,.int .i64 x] w fun r w'=>(∃ y1 y2,r=.returned (.tuple #[.agg (af c y1 y2),.bool (fo c v x)])∧ag w' w.heap.size y1 c.cells∧ai w' w.heap.size y2 (dN c v x).words)∧Below w.heap.size w w':=by
 obtain ⟨n1,n2⟩:=jh hc
 obtain ⟨a,p,rfl,g1⟩:=h1.seg
 obtain ⟨b,q,rfl,g2⟩:=h2.seg
 refine (JI c v x a b p q w g1 (mM h1) g2 (mM h2) tO tO).mono ?_
 rintro _ w' ⟨⟨y1,y2,rfl,k1,k2⟩,hb⟩
 obtain ⟨e1,e2⟩:=Bj (v:=v) (x:=x) hc
 rw [e1] at k1 k2
 rw [(ma c v x).1] at k1
 refine ⟨⟨y1,y2,?_,k1,k2⟩,hb⟩
 rw [e1,e2]
 show Ending.returned (.tuple #[.agg (af (dN c v x) y1 y2),_])=_
 rw [uz]
theorem G5 (c:Ch) (v1 v2:Value) (lo:Nat) (w:World) (h1:ag w lo v1 c.cells) (h2:ai w lo v2 c.words) (hc:aK c=true) (hf:80≤c.words.length) :
  Calls Tryz.prog 257 #[.agg (af c v1 v2)] w fun r w'=>(∃ y1 y2,r=.returned (.tuple #[.agg (af c y1 y2),.int .i64 0])∧ag w' w.heap.size y1 c.cells∧ai w' w.heap.size y2 c.words)∧Below w.heap.size w w':=by
 obtain ⟨n1,n2⟩:=jh hc
 obtain ⟨a,p,rfl,g1⟩:=h1.seg
 obtain ⟨b,q,rfl,g2⟩:=h2.seg
 refine (uy c a b p q w g1 (mM h1) g2 (mM h2) tO tO).mono ?_
 rintro _ w' ⟨⟨y1,y2,rfl,k1,k2⟩,hb⟩
 obtain ⟨e1,e2⟩:=uu hc hf
 rw [e1] at k1 k2
 refine ⟨⟨y1,y2,?_,k1,k2⟩,hb⟩
 rw [e1,e2]
 rfl
theorem G6 (c:Ch) (v1 v2:Value) (lo:Nat) (w:World) (h1:ag w lo v1 c.cells) (h2:ai w lo v2 c.words) (hc:aK c=true) (hf:¬ 80≤c.words.length) :
  Calls Tryz.prog 257 #[.agg (af c v1 v2)] w fun r w'=>(∃ y1 y2,r=.returned (.tuple #[.agg (af c y1 y2),.int .i64 ((c.words.length:Int)+1)])∧ag w' w.heap.size y1 c.cells∧ai w' w.heap.size y2 (c.words ++ [0]))∧Below w.heap.size w w':=by
 obtain ⟨n1,n2⟩:=jh hc
 obtain ⟨a,p,rfl,g1⟩:=h1.seg
 obtain ⟨b,q,rfl,g2⟩:=h2.seg
 refine (uy c a b p q w g1 (mM h1) g2 (mM h2) tO tO).mono ?_
 rintro _ w' ⟨⟨y1,y2,rfl,k1,k2⟩,hb⟩
 obtain ⟨e1,e2⟩:=uw hc hf
 rw [e1] at k1 k2
 refine ⟨⟨y1,y2,?_,k1,k2⟩,hb⟩
 rw [e1,e2]
 rfl
def StepB (w w':World) (lo:Nat) (v1 v2:Value) (x:St) (r:Ending):Prop:=tN w w' lo v1 v2 x r∧Below w.heap.size w w'
theorem G7 (c:Ch) (y z:Ha) (v1 v2:Value) (lo:Nat) (w:World) (h1:ag w lo v1 c.cells) (h2:ai w lo v2 c.words) (hc:aK c=true) (hlo:lo≤w.heap.size) (ht:fo c y.wait 1=true) :
  Calls Tryz.prog 253 #[.agg (af c v1 v2),.agg (aa y),.agg (aa z)] w fun r w'=>StepB w w' lo v1 v2 ((dN c y.wait 1,y,true)) r:=by
 obtain ⟨a1,q1,a2,q2,rfl,rfl,O1,O2,b1,b2⟩:=ql h1 h2
 clear h1 h2
 have o1:=O1.out
 have o2:=O2.out
 go_enter Tryz.func253,Tryz.ntmps253
 go_wp2_with fail;refine ax w zB fun bb=>?_;refine (xB c y.wait 1 _ _ lo _ (zO o1 o1) (zO o2 o2) hc).mono ?_;rintro _ w1 ⟨⟨y1,y2,rfl,aV,aX⟩,ah⟩;obtain ⟨aW,ay,zz⟩:=wU bb ah (b:=w.heap.size);(try simp at ay);(try simp [go_sem] at zz);replace bX:=jL zz;clear zz;have dG:=aW;clear ah bb
 rw [ht]
 try simp at aV aX
 have dL:dW w (.slice a1 c.cells.length q1) y1:=fun j hj=>.inr (by have:=(aV.lt j hj).1;(try simp at this);omega)
 have dI:dW w (.slice a2 c.words.length q2) y2:=fun j hj=>.inr (by have:=(aX.lt j hj).1;(try simp at this);omega)
 obtain ⟨ya,yp,rfl,_⟩:=aV.seg
 obtain ⟨yb,yq,rfl,_⟩:=aX.seg
 have r1:=av (lo':=lo) aV tO
 have r2:=av (lo':=lo) aX tO
 obtain ⟨k0,k1,k2,k3⟩:=kZ (a:=w.heap.size) (b:=w1.heap.size)
 have k4:w.heap.size+1+1+1+1<w1.heap.size:=by omega
 go_wp2_with fail
 go_region
 go_wp2
 refine rE Tryz.results253 rfl (az c (.slice ya c.cells.length yp) (.slice yb (dN c y.wait 1).words.length yq) tZ) rfl (aj y tZ) ⟨⟨.slice ya c.cells.length yp,.slice yb (dN c y.wait 1).words.length yq,by (rw [uz];rfl),?_,?_,dL,dI⟩,by exact zB⟩
 ·show ag _ lo _ (dN c y.wait 1).cells
  rw [(ma c y.wait 1).1]
  exact zO r1 aV
 ·exact zO r2 aX
theorem JK (c:Ch) (y z:Ha) (v1 v2:Value) (lo:Nat) (w:World) (h1:ag w lo v1 c.cells) (h2:ai w lo v2 c.words) (hc:aK c=true) (hlo:lo≤w.heap.size) (ht:fo c y.wait 1=false) :
  Calls Tryz.prog 253 #[.agg (af c v1 v2),.agg (aa y),.agg (aa z)] w fun r w'=>StepB w w' lo v1 v2 ((c,z,true)) r:=by
 obtain ⟨a1,q1,a2,q2,rfl,rfl,O1,O2,b1,b2⟩:=ql h1 h2
 clear h1 h2
 have o1:=O1.out
 have o2:=O2.out
 go_enter Tryz.func253,Tryz.ntmps253
 go_wp2_with fail;refine ax w zB fun bb=>?_;refine (xB c y.wait 1 _ _ lo _ (zO o1 o1) (zO o2 o2) hc).mono ?_;rintro _ w1 ⟨⟨y1,y2,rfl,aV,aX⟩,ah⟩;obtain ⟨aW,ay,zz⟩:=wU bb ah (b:=w.heap.size);(try simp at ay);(try simp [go_sem] at zz);replace bX:=jL zz;clear zz;have dG:=aW;clear ah bb
 rw [ht]
 obtain ⟨ya,yp,rfl,_⟩:=aV.seg
 obtain ⟨yb,yq,rfl,_⟩:=aX.seg
 have p1:=own_below o1 dG
 have p2:=own_below o2 dG
 obtain ⟨k0,k1,k2,k3⟩:=kZ (a:=w.heap.size) (b:=w1.heap.size)
 have k4:w.heap.size+1+1+1+1<w1.heap.size:=by omega
 go_wp2_with fail
 go_region
 go_wp2
 refine rE Tryz.results253 rfl (az c (.slice a1 c.cells.length q1) (.slice a2 c.words.length q2) tZ) rfl (aj z (by simp [go_sem, *] <;> first|rfl|simp [bM,anew,hci])) ⟨⟨_,_,rfl,?_,?_,ak _ _,ak _ _⟩,by exact zB⟩
 ·exact zO p1 o1
 ·exact zO p2 o2
def zU (c:Ch) (y z:Ha):St:=if fo c y.wait 1 then (dN c y.wait 1,y,true) else (c,z,true)
theorem r9 (c:Ch) (y z:Ha) (v1 v2:Value) (lo:Nat) (w:World) (h1:ag w lo v1 c.cells) (h2:ai w lo v2 c.words) (hc:aK c=true) (hlo:lo≤w.heap.size) :
  Calls Tryz.prog 253 #[.agg (af c v1 v2),.agg (aa y),.agg (aa z)] w fun r w'=>StepB w w' lo v1 v2 (zU c y z) r:=by
 cases ht:fo c y.wait 1 with
 | true =>
  rw [show zU c y z=(dN c y.wait 1,y,true) by simp [zU,ht]]
  exact G7 c y z v1 v2 lo w h1 h2 hc hlo ht
 | false =>
  rw [show zU c y z=(c,z,true) by simp [zU,ht]]
  exact JK c y z v1 v2 lo w h1 h2 hc hlo ht
theorem yA (c:Ch) (h:Ha) (v1 v2:Value) (lo:Nat) (w:World) (h1:ag w lo v1 c.cells) (h2:ai w lo v2 c.words) (hc0:0≤h.cell) (hc1:h.cell<c.cells.length) :
  cu 246 c h v1 v2 lo w ((bP c h.cell 7,aP 1 0,true)):=by
 obtain ⟨i,hci⟩:∃ i:Nat,h.cell=(i:Int):=⟨h.cell.toNat,by omega⟩
 have hi:i<c.cells.length:=by omega
 have hi0:(0:Int)≤(i:Int):=by omega
 have hi1:(i:Int)<(c.cells.length:Int):=by omega
 have hne:=h1.ne h2
 obtain ⟨a2,q2,rfl,_⟩:=h2.seg
 obtain ⟨g,q1,rfl,hlo1,hlt,hcell,hfr⟩:=h1.open1 hi
 have O1:=Lib.hid h1
 have O2:=Lib.hid h2
 have jI:g<w.heap.size+1:=by omega
 have jJ:g<w.heap.size+1+1:=by omega
 have jK:g<w.heap.size+1+1+1:=by omega
 have vH:g≠w.heap.size:=by omega
 have vI:g≠w.heap.size+1:=by omega
 have vJ:g≠w.heap.size+1+1:=by omega
 have vK:g≠w.heap.size+1+1+1:=by omega
 have xC:w.heap.size≠g:=by omega
 have xD:w.heap.size+1≠g:=by omega
 have xE:w.heap.size+1+1≠g:=by omega
 have xG:w.heap.size+1+1+1≠g:=by omega
 have hx:Hid (cellAt c h.cell=c.cells.getD i ⟨0,0,0⟩):=by simp [cellAt,Hid,hci]
 have c0:=hcell 0 tO
 have c1:=hcell 1 tO
 have c2:=hcell 2 tO
 simp only [C3.val,Nat.add_zero] at c0 c1 c2
 rw [show bP c h.cell 7=bP c i 7 by rw [hci]]
 have e1:=iq c i 7
 have P1:=fun W (o:ag W lo (.slice (some ⟨g,0,none⟩) c.cells.length q1) c.cells)=>ag.setS o hi 7
 rw [← e1] at P1
 clear hx hcell h1 h2 e1
 generalize c.cells.getD i ⟨0,0,0⟩=x at *
 have o1:=O1.out
 have o2:=O2.out
 go_enter Tryz.func246,Tryz.ntmps246
 have P2:=aS (p:=⟨g,i*3,none⟩) o2 (hne g rfl) (.int .i64 7)
 go_wp2_with fail
 go_region_held3 (fun w'=>hp w' w.heap.size=some (.cells (af c (.slice (some ⟨g,0,none⟩) c.cells.length q1) (.slice a2 c.words.length q2)) 31)∧hp w' (w.heap.size+1)=some (.cells (aa h) 49))
  (first|(simp [*,go_sem]))
  (first|(go_at_call 48;refine (fT _ _ _).mono ?_;rintro _ w1 ⟨rfl,ah⟩;have jZ:Gr g w w1:=gT zG (pO ah);have ay:=ah.size;(try (simp at ay));have zz:=hQ ah (b:=w.heap.size);(first|(simp [go_sem,dw,dJ,hlt,jI,jJ,jK] at zz)|(simp [go_sem,hlt,jI,jJ,jK] at zz));(try clear dV eD);(try clear dw);have dw:=zz;clear zz;(try clear dJ);obtain ⟨dV,eD,dJ⟩:=bO dw;have zz:=hQ ah (b:=w.heap.size+1);(first|(simp [go_sem,bz,bZ,hlt,jI,jJ,jK] at zz)|(simp [go_sem,hlt,jI,jJ,jK] at zz));(try clear di dz);(try clear bz);have bz:=zz;clear zz;(try clear bZ);obtain ⟨di,dz,bZ⟩:=bO bz;have zz:=hQ ah (b:=w.heap.size+1+1);(first|(simp [go_sem,aH,bq,hlt,jI,jJ,jK] at zz)|(simp [go_sem,hlt,jI,jJ,jK] at zz));(try clear cB cK);(try clear aH);have aH:=zz;clear zz;(try clear bq);obtain ⟨cB,cK,bq⟩:=bO aH;have zz:=hQ ah (b:=w.heap.size+1+1+1);(first|(simp [go_sem,aA,aR,hlt,jI,jJ,jK] at zz)|(simp [go_sem,hlt,jI,jJ,jK] at zz));(try clear bK bL);(try clear aA);have aA:=zz;clear zz;(try clear aR);obtain ⟨bK,bL,aR⟩:=bO aA;have p1:ag w1 lo (.slice (some ⟨g,0,none⟩) c.cells.length q1) (bP c i 7).cells:=own_below (by exact zO (P1 _ o1) o1) ah;have p2:ai w1 lo (.slice a2 c.words.length q2) c.words:=own_below (zO P2 o2) ah))
 go_wp2
 refine rE Tryz.results246 rfl (az (bP c i 7) (.slice (some ⟨g,0,none⟩) c.cells.length q1) (.slice a2 c.words.length q2) tZ) rfl (aj (aP 1 0) (by simp [go_sem, *] <;> first|rfl|simp [bM,anew,hci])) ⟨⟨_,_,rfl,?_,?_,ak _ _,ak _ _⟩,lW (show w.grownBy _ (some g) from zG)⟩
 ·show ag _ lo (.slice (some ⟨g,0,none⟩) c.cells.length q1) (bP c i 7).cells
  exact zO p1 o1
 ·show ai _ lo (.slice a2 c.words.length q2) c.words
  exact zO p2 o2
end
section
open Go.RowKit
theorem JL (s e t m:Int) (w:World):Calls Tryz.prog 248 #[.agg #[.int .i64 s,.int .i64 e,.int .i64 t],.int .i64 m] w fun r w'=>r=.returned (.agg #[.int .i64 s,.int .i64 (kQ s e t m),.int .i64 t])∧Below w.heap.size w w':=by
 go_enter Tryz.func248,Tryz.ntmps248
 go_wp2_with (first|(go_at_call 181;refine (ny _ _ _ _).mono ?_;rintro _ w1 ⟨rfl,ah⟩;have hBw1:Below w.heap.size w w1:=bT zB ah;have ay:=ah.size;(try (simp at ay));have:=fun o=>ah.cell (p:=⟨w.heap.size,o,none⟩) (by ((try simp);(try omega)));have:=fun o=>ah.frozen (p:=⟨w.heap.size,o,none⟩) (by ((try simp);(try omega)));have:=fun o=>ah.cell (p:=⟨w.heap.size+1,o,none⟩) (by ((try simp);(try omega)));have:=fun o=>ah.frozen (p:=⟨w.heap.size+1,o,none⟩) (by ((try simp);(try omega)));have:w.heap.size<w1.heap.size:=tO;have:w.heap.size≤w1.heap.size:=tO;have:w.heap.size≤w1.heap.size+1:=tO;have:w.heap.size+1<w1.heap.size:=tO;have:w.heap.size+1≤w1.heap.size:=tO;have:w.heap.size+1≤w1.heap.size+1:=tO)|(go_at_call 45;refine (dX _ _ _).mono ?_;rintro _ _ ⟨rfl,rfl⟩))
 ·rw [EZ ‹_›];exact bodyPost_ret (v:=.agg #[.int .i64 s,.int .i64 e,.int .i64 t]) (by simp [results,Tryz.results248,go_sem, *]) rfl ⟨rfl,by exact zB⟩
 ·rw [Fa ‹_› ‹_›];exact bodyPost_ret (v:=.agg #[.int .i64 s,.int .i64 m,.int .i64 t]) (by simp [results,Tryz.results248,go_sem, *]) rfl ⟨rfl,by exact zB⟩
 ·rw [EY ‹_›];exact bodyPost_ret (v:=.agg #[.int .i64 s,.int .i64 e,.int .i64 t]) (by simp [results,Tryz.results248,go_sem, *]) rfl ⟨rfl,by exact zB⟩
theorem D5 (s e t f n v:Int) (w:World):Calls Tryz.prog 256 #[.agg #[.int .i64 s,.int .i64 e,.int .i64 t],.int .i64 f,.int .i64 n,.int .i64 v] w fun r w'=>rH s e t f n v r∧Below w.heap.size w w':=by
 by_cases R5:s=f
 ·subst R5
  go_enter Tryz.func256,Tryz.ntmps256
  go_wp2_with (go_at_call 181;refine (ny _ _ _ _).mono ?_;rintro _ w1 ⟨rfl,ah⟩;have hBw1:Below w.heap.size w w1:=bT zB ah;have ay:=ah.size;(try (simp at ay));have:=fun o=>ah.cell (p:=⟨w.heap.size,o,none⟩) (by ((try simp);(try omega)));have:=fun o=>ah.frozen (p:=⟨w.heap.size,o,none⟩) (by ((try simp);(try omega)));have:=fun o=>ah.cell (p:=⟨w.heap.size+1,o,none⟩) (by ((try simp);(try omega)));have:=fun o=>ah.frozen (p:=⟨w.heap.size+1,o,none⟩) (by ((try simp);(try omega)));have:=fun o=>ah.cell (p:=⟨w.heap.size+1+1,o,none⟩) (by ((try simp);(try omega)));have:=fun o=>ah.frozen (p:=⟨w.heap.size+1+1,o,none⟩) (by ((try simp);(try omega)));have:w.heap.size<w1.heap.size:=tO;have:w.heap.size≤w1.heap.size:=tO;have:w.heap.size≤w1.heap.size+1:=tO;have:w.heap.size+1<w1.heap.size:=tO;have:w.heap.size+1≤w1.heap.size:=tO;have:w.heap.size+1≤w1.heap.size+1:=tO;have:w.heap.size+1+1<w1.heap.size:=tO;have:w.heap.size+1+1≤w1.heap.size:=tO;have:w.heap.size+1+1≤w1.heap.size+1:=tO)
  all_goals first
   | (refine bodyPost_ret (v:=.tuple #[.agg #[.int .i64 n,.int .i64 e,.int .i64 v],.bool true]) (by simp [results,Tryz.results256,go_sem, *]) rfl ⟨wO (II ‹_› ‹_›),by exact zB⟩)
   | (refine bodyPost_ret (v:=.tuple #[.agg #[.int .i64 s,.int .i64 e,.int .i64 t],.bool false]) (by simp [results,Tryz.results256,go_sem, *]) rfl ⟨qm (by first|exact xQ ‹_›|exact IG ‹_›),by exact zB⟩)
 ·go_enter Tryz.func256,Tryz.ntmps256
  go_wp2_with (go_at_call 181;refine (ny _ _ _ _).mono ?_;rintro _ w1 ⟨rfl,ah⟩;have hBw1:Below w.heap.size w w1:=bT zB ah;have ay:=ah.size;(try (simp at ay));have:=fun o=>ah.cell (p:=⟨w.heap.size,o,none⟩) (by ((try simp);(try omega)));have:=fun o=>ah.frozen (p:=⟨w.heap.size,o,none⟩) (by ((try simp);(try omega)));have:=fun o=>ah.cell (p:=⟨w.heap.size+1,o,none⟩) (by ((try simp);(try omega)));have:=fun o=>ah.frozen (p:=⟨w.heap.size+1,o,none⟩) (by ((try simp);(try omega)));have:=fun o=>ah.cell (p:=⟨w.heap.size+1+1,o,none⟩) (by ((try simp);(try omega)));have:=fun o=>ah.frozen (p:=⟨w.heap.size+1+1,o,none⟩) (by ((try simp);(try omega)));have:w.heap.size<w1.heap.size:=tO;have:w.heap.size≤w1.heap.size:=tO;have:w.heap.size≤w1.heap.size+1:=tO;have:w.heap.size+1<w1.heap.size:=tO;have:w.heap.size+1≤w1.heap.size:=tO;have:w.heap.size+1≤w1.heap.size+1:=tO;have:w.heap.size+1+1<w1.heap.size:=tO;have:w.heap.size+1+1≤w1.heap.size:=tO;have:w.heap.size+1+1≤w1.heap.size+1:=tO)
  all_goals (refine bodyPost_ret (v:=.tuple #[.agg #[.int .i64 s,.int .i64 e,.int .i64 t],.bool false]) (by simp [results,Tryz.results256,go_sem, *]) rfl ⟨qm (by first|exact IE ‹_›|exact xQ ‹_›),by exact zB⟩)
end
section
open Go.RowKit
theorem jO (c:Ch) (i:Nat) (f t v:Int) (v1 v2:Value) (lo:Nat) (w:World) (h1:ag w lo v1 c.cells) (h2:ai w lo v2 c.words) (hi:i<c.cells.length) :
  Calls Tryz.prog 254 #[.agg (af c v1 v2),.int .i64 i,.int .i64 f,.int .i64 t,.int .i64 v] w fun r w'=>r=.returned (.bool (bn c i f t v))∧ag w' lo v1 (aY c i f t v).cells∧ai w' lo v2 c.words∧w.grownBy w' v1.ownBlock:=by
 have O2:=Lib.hid h2
 have hne:=h1.ne h2
 obtain ⟨b,q,rfl,_⟩:=h2.seg
 obtain ⟨g,cap,rfl,hlo,hlt,hcell,hfr⟩:=h1.open1 hi
 have O1:=Lib.hid h1
 have c0:=hcell 0 tO
 have c1:=hcell 1 tO
 have c2:=hcell 2 tO
 simp only [C3.val,Nat.add_zero] at c0 c1 c2
 have hi0:(0:Int)≤(i:Int):=by omega
 have hi1:(i:Int)<(c.cells.length:Int):=by omega
 have hgw:w.heap.size≠g:=by omega
 have sG:w.heap.size+1≠g:=by omega
 have P8:g≠w.heap.size:=by omega
 have fJ:g≠w.heap.size+1:=by omega
 rw [rR,xA]
 unfold xS lX
 generalize hcg:c.cells.getD i ⟨0,0,0⟩=x at c0 c1 c2
 clear h1 h2 hcell hcg
 unfold af
 go_enter Tryz.func254,Tryz.ntmps254
 go_wp2_with fail;refine ax w zB fun bb=>?_;refine (D5 _ _ _ f t v _).mono ?_;rintro _ w1 ⟨hr,ah⟩;have aW:=bT bb ah;have ay:=ah.size;(try simp at ay);have zz:=Fg ah (b:=w.heap.size);(try simp [go_sem] at zz);replace bX:=zz;clear zz;have dG:=aW;clear ah bb
 unfold rH at hr
 subst hr
 have o1:=O1.out
 have o2:=O2.out
 have p1:=own_below o1 aW
 have p2:=own_below o2 aW
 have d1:=fun o=>(aW.cell (p:=⟨g,o,none⟩) hlt)
 have d2:=fun o=>(aW.frozen (p:=⟨g,o,none⟩) hlt)
 have kL:g<w1.heap.size:=by omega
 have R6:w1.heap.size≠g:=by omega
 have R7:g≠w1.heap.size:=by omega
 have P1:=ag.set p1 hi (lX x f t v)
 simp only [lX] at P1
 go_wp2
 go_ret
 refine ⟨rfl,?_,?_,?_⟩
 ·exact zO P1 o1
 ·(repeat first|with_reducible exact p2|with_reducible refine zR ?_ _|with_reducible refine vv ?_|((with_reducible first|refine aS ?_ ?_ _|refine gp ?_ ?_);rotate_left;focus first|(refine own_ne o2 ?_;(try dsimp only);omega)|(refine gI o2 ?_;(try dsimp only);omega)|exact fun h=>ag.ne o1 o2 _ rfl h))
 ·have hg1:Gr g w w1:=pO aW
  show Gr g w _
  exact zG
attribute [local simp] aC
attribute [local go_sem ↓] aB aU aL bB aM bC aG aN au aF
theorem jm (h:Ha) (s e t:Int) (w:World):Calls Tryz.prog 249 #[.agg (aa h),.agg #[.int .i64 s,.int .i64 e,.int .i64 t]] w fun r w'=>r=.returned (.agg (aa { h with seen:=s,wait:=t }))∧Below w.heap.size w w':=by
 go_enter Tryz.func249,Tryz.ntmps249
 go_wp2_with fail
 go_region
 all_goals go_wp2
 all_goals exact bodyPost_ret (ic Tryz.results249 rfl (aj { h with seen:=s,wait:=t } tZ)) rfl ⟨rfl,by exact zB⟩
end
end Go.Proofs.YtffhjmepfojhnaaGreat
