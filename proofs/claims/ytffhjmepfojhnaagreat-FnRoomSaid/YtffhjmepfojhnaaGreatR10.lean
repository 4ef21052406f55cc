/-
  The program's world of its own: a copy behind a pointer; the lists lie in memory and hold at most 1048576 elements.
-/
import Derived.Test.YtffhjmepfojhnaaGreatR09
import Derived.Test.YtffhjmepfojhnaaGreatR04
set_option maxRecDepth 100000
set_option maxHeartbeats 4000000
set_option linter.unusedSimpArgs false
set_option linter.unusedVariables false
namespace Go.Proofs.YtffhjmepfojhnaaGreat
open Go.RowKit
attribute [local simp] aC
def P7 (w w':World) (x:Wo) (r:Ending):Prop:=(∃ B v1 v2 v3 v4,r=.returned (.pointer (some ⟨B,0,none⟩))∧w.heap.size≤B∧hp w' B=some (.cells (gK x v1 v2 v3 v4) 35)∧ry w' w.heap.size v1 v2 v3 v4 x)∧Below w.heap.size w w'
theorem xz (x:Wo) (a b d e:Option Addr) (p q r s:Nat) (w:World) (h:iG w w.heap.size x a b d e) (z:kT x a b d e p q r s) (m:lJ x) :
  Calls Tryz.prog 51 #[xc x a b d e p q r s] w fun r w'=>P7 w w' x r:=by
 obtain ⟨h1,h2,h3,h4⟩:=h
 obtain ⟨z1,z2,z3,z4⟩:=z
 obtain ⟨m1,m2,m3,m4⟩:=m
 have H1:=Lib.hid h1
 have H2:=Lib.hid h2
 have H3:=Lib.hid h3
 have H4:=Lib.hid h4
 have Z3:=Lib.hid z3
 have Z4:=Lib.hid z4
 have M1:x.ch.cells.length≤1099511627776:=by omega
 have M2:x.ch.words.length≤1099511627776:=by omega
 have Vx:=Fw x.hands.length m3
 have Vy:=Mv x.deals.length m4
 clear h1 h2 h3 h4 z3 z4
 go_enter Tryz.func51,Tryz.ntmps51
 go_wp2_with fail
 go_wp2_with fail;refine ax w zB fun bb=>?_;refine (lK x.ch a b p q _ (aT H1 bb) z1 (aT H2 bb) z2 M1 M2).mono ?_;rintro _ w1 ⟨⟨v1,v2,rfl,o1,o2⟩,ah⟩;have aW:Below w.heap.size w w1:=bT bb ah;have ay:=ah.size;(try simp at ay);have zz:=And.intro (hQ ah (b:=w.heap.size+1)) <| hQ ah (b:=w.heap.size);(try simp [go_sem] at zz);(try clear bz di dz bZ);(try clear dw dV eD dJ);obtain ⟨bz,dw⟩:=zz;obtain ⟨di,dz,bZ⟩:=bO bz;obtain ⟨dV,eD,dJ⟩:=bO dw;clear ah bb
 replace o1:=av (lo':=w.heap.size+1+1) o1 (by simp)
 replace o2:=av (lo':=w.heap.size+1+1) o2 (by simp)
 have Ry:=o1
 have Rz:=o2
 obtain ⟨va,vc,rfl,_⟩:=ag.seg o1
 obtain ⟨vb,vd,rfl,_⟩:=ai.seg o2
 go_wp2_with fail
 have Vz:=aW
 generalize Cv:World.alloc _ _=wa
 have hga:hp wa w1.heap.size=some (.cells (madeCells (aa Ha.zero) (x.hands.length*14)) 49):=by rw [← Cv];simp [go_sem]
 have OZ:hp wa w.heap.size=some (.cells (gK x (.slice a x.ch.cells.length p) (.slice b x.ch.words.length q) (.slice d x.hands.length r) (.slice e x.deals.length s)) 35):=by rw [← Cv];simp [go_sem,dw,dJ];rfl
 have Pb:hp wa (w.heap.size+1)=some (.cells (gK x (.slice va x.ch.cells.length vc) (.slice vb x.ch.words.length vd) (.slice (some ⟨w1.heap.size,0,none⟩) x.hands.length x.hands.length) (.slice e x.deals.length s)) 35):=by rw [← Cv];simp [go_sem,bz,bZ];rfl
 have hBa:Below w.heap.size w wa:=by rw [← Cv];exact zB
 have hsa:wa.heap.size=w1.heap.size+1:=by rw [← Cv];simp
 have i1:wa.ownsRow (w.heap.size+1+1) 93 3 (.slice va x.ch.cells.length vc) x.ch.cells.length (iJ x.ch.cells):=(by rw [← Cv];(repeat (first|with_reducible exact Ry|with_reducible refine World.ownsRow.alloc ?_ _|((with_reducible refine aS ?_ ?_ _);rotate_left;(focus exact own_ne Ry (by (try simp);try omega))))))
 have i2:wa.ownsRow (w.heap.size+1+1) 2 1 (.slice vb x.ch.words.length vd) x.ch.words.length (ints x.ch.words):=(by rw [← Cv];(repeat (first|with_reducible exact Rz|with_reducible refine World.ownsRow.alloc ?_ _|((with_reducible refine aS ?_ ?_ _);rotate_left;(focus exact own_ne Rz (by (try simp);try omega))))))
 clear Cv o1 o2 Ry Rz dw bz dV di eD dz dJ bZ
 obtain ⟨w2,hrun,hg2,Oa⟩:=oO (P:=Tryz.prog) wa 32 32 3 49 w1.heap.size x.hands.length 14 d r _ 49 (jU x.hands) Tryz.underlying32 (by kernel_rfl) hga (by simp [madeCells]) (jw _) (fun e=>(Z3.out e).1) (Seg.news (H3.out.below hBa) (jw _) (jy _)) (Ga _)
 rw [hrun]
 replace i1:=World.ownsRow.kept i1 Oa (.inr fun e=>dh i1 hga (by decide) _ e rfl)
 replace i2:=World.ownsRow.kept i2 Oa (.inr fun e=>dh i2 hga (by decide) _ e rfl)
 have i3:w2.ownsRow (w.heap.size+1+1) 49 14 (.slice (some ⟨w1.heap.size,0,none⟩) x.hands.length x.hands.length) x.hands.length (jU x.hands):=qz hg2 (jw _) tO (by unfold maxLen;omega)
 replace OZ:=(dB Oa (bO OZ).2.2 (by simp;omega)).trans OZ
 replace Pb:=(dB Oa (bO Pb).2.2 (by simp;omega)).trans Pb
 have hB2:Below w.heap.size w w2:=iE hBa Oa hBa.size (fun k hk=>by simp at hk;omega)
 obtain ⟨Tz,V3,T9⟩:=bO OZ
 obtain ⟨QE,R4,QF⟩:=bO Pb
 simp only [gK] at Tz QE
 have hs2:=Oa.size
 clear hrun Oa hga hg2
 go_wp2_with fail
 generalize hwb:World.alloc _ _=wb
 have hgb:hp wb w2.heap.size=some (.cells (madeCells (iY De.zero) (x.deals.length*7)) 44):=by rw [← hwb];simp [go_sem]
 have V4:hp wb w.heap.size=some (.cells (gK x (.slice a x.ch.cells.length p) (.slice b x.ch.words.length q) (.slice d x.hands.length r) (.slice e x.deals.length s)) 35):=by rw [← hwb];simp [go_sem,OZ,T9]
 have QG:hp wb (w.heap.size+1)=some (.cells (gK x (.slice va x.ch.cells.length vc) (.slice vb x.ch.words.length vd) (.slice (some ⟨w1.heap.size,0,none⟩) x.hands.length x.hands.length) (.slice (some ⟨w2.heap.size,0,none⟩) x.deals.length x.deals.length)) 35):=by rw [← hwb];simp [go_sem,Pb,QF,gK]
 have hBb:Below w.heap.size w wb:=by rw [← hwb];exact zB
 have hsb:wb.heap.size=w2.heap.size+1:=by rw [← hwb];simp
 have j1:wb.ownsRow (w.heap.size+1+1) 93 3 (.slice va x.ch.cells.length vc) x.ch.cells.length (iJ x.ch.cells):=(by rw [← hwb];(repeat (first|with_reducible exact i1|with_reducible refine World.ownsRow.alloc ?_ _|((with_reducible refine aS ?_ ?_ _);rotate_left;(focus exact own_ne i1 (by (try simp);try omega))))))
 have j2:wb.ownsRow (w.heap.size+1+1) 2 1 (.slice vb x.ch.words.length vd) x.ch.words.length (ints x.ch.words):=(by rw [← hwb];(repeat (first|with_reducible exact i2|with_reducible refine World.ownsRow.alloc ?_ _|((with_reducible refine aS ?_ ?_ _);rotate_left;(focus exact own_ne i2 (by (try simp);try omega))))))
 have j3:wb.ownsRow (w.heap.size+1+1) 49 14 (.slice (some ⟨w1.heap.size,0,none⟩) x.hands.length x.hands.length) x.hands.length (jU x.hands):=(by rw [← hwb];(repeat (first|with_reducible exact i3|with_reducible refine World.ownsRow.alloc ?_ _|((with_reducible refine aS ?_ ?_ _);rotate_left;(focus exact own_ne i3 (by (try simp);try omega))))))
 clear hwb i1 i2 i3 OZ Pb Tz QE V3 R4 T9 QF
 obtain ⟨w3,hrun,hg3,Pd⟩:=oO (P:=Tryz.prog) wb 33 33 3 44 w2.heap.size x.deals.length 7 e s _ 44 (jV x.deals) Tryz.underlying33 (by kernel_rfl) hgb (by simp [madeCells]) (oH _) (fun e=>(Z4.out e).1) (Seg.news (H4.out.below hBb) (oH _) (mJ _)) (Gb _)
 rw [hrun]
 replace j1:=World.ownsRow.kept j1 Pd (.inr fun e=>dh j1 hgb (by decide) _ e rfl)
 replace j2:=World.ownsRow.kept j2 Pd (.inr fun e=>dh j2 hgb (by decide) _ e rfl)
 replace j3:=World.ownsRow.kept j3 Pd (.inr fun e=>dh j3 hgb (by decide) _ e rfl)
 have j4:w3.ownsRow (w.heap.size+1+1) 44 7 (.slice (some ⟨w2.heap.size,0,none⟩) x.deals.length x.deals.length) x.deals.length (jV x.deals):=qz hg3 (oH _) tO (by unfold maxLen;omega)
 replace QG:=(dB Pd (bO QG).2.2 (by simp;omega)).trans QG
 have hB3:Below w.heap.size w w3:=iE hBb Pd hBb.size (fun k hk=>by simp at hk;omega)
 clear hrun Pd hgb hg3 V4
 go_wp2
 go_ret
 exact ⟨⟨_,_,_,_,_,rfl,by omega,QG,av j1 tO,av j2 tO,av j3 tO,av j4 tO⟩,hB3⟩
end Go.Proofs.YtffhjmepfojhnaaGreat
