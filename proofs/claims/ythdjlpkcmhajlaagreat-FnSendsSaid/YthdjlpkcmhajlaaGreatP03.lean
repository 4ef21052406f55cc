/-
  The reference model's functions of chapter 5, on hands that are kept whole; no condition.
-/
import Derived.Test.YthdjlpkcmhajlaaGreatP02
set_option linter.unusedSimpArgs false
set_option linter.unusedVariables false
namespace Go.Proofs.YthdjlpkcmhajlaaGreat
open Go.RowKit
attribute [local go_sem ↓] zeroHand toLHand toVHand storeHand storeHandC
set_option maxRecDepth 100000 in
set_option maxHeartbeats 1000000 in
theorem sHandOk_any (h:Ha) (w:World):Calls Tryz.prog 54 #[.agg (hvals h)] w fun r w'=>r=.returned (.bool (handOk h))∧Below w.heap.size w w':=by
  go_enter Tryz.func54,Tryz.ntmps54
  go_wp2_with (first|(go_at_call 55;refine (l1In_any _ _ _ _).mono ?_;rintro _ _ ⟨rfl,rfl⟩)|(go_at_call 87;refine (l1State_any _ _).mono ?_;rintro _ _ ⟨rfl,rfl⟩)|(go_at_call 58;refine (l1Elem_any _ _).mono ?_;rintro _ _ ⟨rfl,rfl⟩)|(go_at_call 84;refine (l2Count_any _ _).mono ?_;rintro _ _ ⟨rfl,rfl⟩)|(go_at_call 86;refine bHit w (by exact zB) fun bb=>?_;refine (sCallOk_any _ _ _).mono ?_;rintro _ w1 ⟨rfl,hbw1⟩;have hCw1:Below w.heap.size w w1:=bT bb hbw1;have hsw1:=hbw1.size;(try simp at hsw1);have zz:=hQ hbw1 (b:=w.heap.size);(try simp [go_sem] at zz);(try clear z_w x_w f_w l_w);have z_w:=zz;clear zz;obtain ⟨x_w,f_w,l_w⟩:=bO z_w;clear hbw1 bb)|(go_at_call 85;refine bHit w (by exact zB) fun bb=>?_;refine (l4None_any _ _ _).mono ?_;rintro _ w1 ⟨rfl,hbw1⟩;have hCw1:Below w.heap.size w w1:=bT bb hbw1;have hsw1:=hbw1.size;(try simp at hsw1);have zz:=hQ hbw1 (b:=w.heap.size);(first|simp [go_sem,z_w,l_w] at zz|simp [go_sem] at zz|skip);(try clear z_w x_w f_w l_w);have z_w:=zz;clear zz;obtain ⟨x_w,f_w,l_w⟩:=bO z_w;clear hbw1 bb))
  all_goals go_ret
  all_goals exact ⟨ret_bool (by simp_all [handOk,handA,handB,handC]),by exact zB⟩
set_option maxRecDepth 100000 in
theorem sResting_any (x o:Int) (w:World):Calls Tryz.prog 21 #[.int .i64 x,.int .i64 o] w fun r w'=>r=.returned (.agg (hvals (resting x o)))∧Below w.heap.size w w':=by
  go_enter Tryz.func21,Tryz.ntmps21
  go_wp2
  refine bodyPost_ret (res_c Tryz.results21 rfl (ldHand (resting x o) (by simp [go_sem] <;> rfl))) rfl ⟨rfl,by exact zB⟩
set_option maxRecDepth 100000 in
theorem l5Begin_any (k e b:Int) (w:World):Calls Tryz.prog 88 #[.agg #[.int .i64 k,.int .i64 e],.int .i64 b] w fun r w'=>r=.returned (.agg (hvals (begun k e b)))∧Below w.heap.size w w':=by
  by_cases h:k=2
  · subst h
    go_enter Tryz.func88,Tryz.ntmps88
    go_wp2
    refine bodyPost_ret (res_c Tryz.results88 rfl (ldHand (begun 2 e b) (by simp [go_sem] <;> rfl))) rfl ⟨rfl,by exact zB⟩
  · have e1:begun k e b=⟨1,k,e,0,0,0,0,0,0,0,0,b,0,0⟩:=by simp [begun,h]
    rw [e1]
    have h2:(k == 2)=false:=by simpa using h
    clear h
    go_enter Tryz.func88,Tryz.ntmps88
    go_wp2
    refine bodyPost_ret (res_c Tryz.results88 rfl (ldHand ⟨1,k,e,0,0,0,0,0,0,0,0,b,0,0⟩ (by simp [go_sem] <;> rfl))) rfl ⟨rfl,by exact zB⟩
set_option maxRecDepth 100000 in
theorem l6Anew_any (h:Ha) (w:World):Calls Tryz.prog 59 #[.agg (hvals h)] w fun r w'=>r=.returned (.agg (hvals (begun h.code h.elem h.beg)))∧Below w.heap.size w w':=by
  go_enter Tryz.func59,Tryz.ntmps59
  go_wp2_with fail;refine bHit w (by exact zB) fun bb=>?_;refine (l5Begin_any h.code h.elem h.beg _).mono ?_;rintro _ w1 ⟨rfl,hbw1⟩;have hCw1:Below w.heap.size w w1:=bT bb hbw1;have hsw1:=hbw1.size;(try simp at hsw1);have zz:=And.intro (hQ hbw1 (b:=w.heap.size+1)) <| hQ hbw1 (b:=w.heap.size);(try simp [go_sem] at zz);(try clear z_wp x_wp f_wp l_wp);(try clear z_w x_w f_w l_w);obtain ⟨z_wp,z_w⟩:=zz;obtain ⟨x_wp,f_wp,l_wp⟩:=bO z_wp;obtain ⟨x_w,f_w,l_w⟩:=bO z_w;clear hbw1 bb
  go_wp2
  refine bodyPost_ret (res_c Tryz.results59 rfl (ldHand (begun h.code h.elem h.beg) (by simp [go_sem, *] <;> rfl))) rfl ⟨rfl,by exact zB⟩
end Go.Proofs.YthdjlpkcmhajlaaGreat
