/-
  The program's round: each task of a world behind a pointer makes a step; no condition but the world's numbers' ranges.
-/
import Derived.Test.YtffhjmepfojhnaaGreatR30
import Derived.Test.YtffhjmepfojhnaaGreatR04
import Derived.Test.YtffhjmepfojhnaaGreatR08
import Derived.Test.YtffhjmepfojhnaaGreatR01
import Derived.Deep.AppendLies
import Derived.Test.YtffhjmepfojhnaaGreatR07
set_option maxRecDepth 100000
set_option maxHeartbeats 4000000
set_option linter.unusedSimpArgs false
set_option linter.unusedVariables false
namespace Go.Proofs.YtffhjmepfojhnaaGreat
section
open Go.RowKit
end
section
open Go.RowKit
theorem Ew (x:Wo) (who most:Int) (a b d e:Option Addr) (p q r s:Nat) (w:World) (h:iG w w.heap.size x a b d e) (m:lJ x) (hk:bJ x=false) :
  Calls Tryz.prog 14 #[xc x a b d e p q r s,.int .i64 who,.int .i64 most] w fun r w'=>iM w w' Wo.zero (.int .i64 (-1)) r:=by
 have HW:=Lib.hid h
 have M3:x.hands.length≤1099511627776:=by have:=m.2.2.1;omega
 clear h
 go_enter Tryz.func14,Tryz.ntmps14
 go_wp2_with fail;refine ax w zB fun bb=>?_;refine (gq x a b d e p q r s _ (HW.out.at bb) m).mono ?_;rintro _ w1 ⟨rfl,ah⟩;obtain ⟨aW,ay,zz⟩:=Ct bb ah (b:=w.heap.size);(try simp at ay);(try simp [go_sem] at zz);replace bX:=Cs zz;clear zz ah bb
 rw [hk]
 go_wp2
 refine bodyPost_ret (v:=.tuple #[.agg #[.int .i64 0,.int .i64 0,.int .i64 0,.int .i64 0,.slice none 0 0,.slice none 0 0,.slice none 0 0,.slice none 0 0,.int .i64 0],.int .i64 (-1)]) (by simp [results,Tryz.results14,go_sem, *]) rfl ⟨⟨_,_,_,_,rfl,mK _ _⟩,by exact zB⟩
theorem Ex (x:Wo) (who most:Int) (a b d e:Option Addr) (p q r s:Nat) (w:World) (h:iG w w.heap.size x a b d e) (m:lJ x) (hk:bJ x=true) (ht:kG x.hands.length who=false) :
  Calls Tryz.prog 14 #[xc x a b d e p q r s,.int .i64 who,.int .i64 most] w fun r w'=>iM w w' Wo.zero (.int .i64 (-1)) r:=by
 have HW:=Lib.hid h
 have M3:x.hands.length≤1099511627776:=by have:=m.2.2.1;omega
 clear h
 go_enter Tryz.func14,Tryz.ntmps14
 go_wp2_with fail;refine ax w zB fun bb=>?_;refine (gq x a b d e p q r s _ (HW.out.at bb) m).mono ?_;rintro _ w1 ⟨rfl,ah⟩;obtain ⟨aW,ay,zz⟩:=Ct bb ah (b:=w.heap.size);(try simp at ay);(try simp [go_sem] at zz);replace bX:=Cs zz;clear zz ah bb
 rw [hk]
 go_wp2_with fail
 refine (lH x.hands.length who w.heap.size d r _ (by simp [*]) M3).mono ?_
 rintro _ _ ⟨rfl,rfl⟩
 rw [ht]
 go_wp2
 refine bodyPost_ret (v:=.tuple #[.agg #[.int .i64 0,.int .i64 0,.int .i64 0,.int .i64 0,.slice none 0 0,.slice none 0 0,.slice none 0 0,.slice none 0 0,.int .i64 0],.int .i64 (-1)]) (by simp [results,Tryz.results14,go_sem, *]) rfl ⟨⟨_,_,_,_,rfl,mK _ _⟩,by exact zB⟩
theorem BV (y:Wo) (i k B lo:Nat) (W:World) (hb:Lf y) (hi:i<y.hands.length) (hc:W.cell? ⟨k,0,none⟩=some (.int .i64 i)) (BX:nI W lo B y) :
  Calls Tryz.prog 54 #[.pointer (some ⟨B,0,none⟩),.pointer (some ⟨k,0,none⟩)] W fun r w'=>(r=.returned (.bool (gM i y).2)∧nI w' lo B (gM i y).1)∧Below lo W w':=by
 go_enter Tryz.func54,Tryz.ntmps54
 go_wp2_with fail
 refine (KC y i B lo _ BX hb hi).mono ?_
 rintro _ w6 ⟨⟨rfl,Pj⟩,I9⟩
 go_wp2
 go_ret
 exact ⟨⟨rfl,Pj⟩,I9⟩
theorem Ey (x:Wo) (i:Nat) (most:Int) (a b d e:Option Addr) (p q r s:Nat) (w:World) (h:iG w w.heap.size x a b d e) (z:kT x a b d e p q r s) (m:lJ x) (hk:bJ x=true) (hi:i<x.hands.length) :
  Calls Tryz.prog 14 #[xc x a b d e p q r s,.int .i64 i,.int .i64 most] w fun r w'=>iM w w' (gW x i most).1 (.int .i64 (gW x i most).2) r:=by
 have HW:=Lib.hid h
 have HZ:=Lib.hid z
 have M3:x.hands.length≤1099511627776:=by have:=m.2.2.1;omega
 have hb:=Ih hk
 clear h z
 have ht:kG x.hands.length i=true:=by simp [kG,dm];omega
 have ea:gW x i most=(if dm most 0 20000 then (lN (gM i) most.toNat x).1 else x,if dm most 0 20000 then ((lN (gM i) most.toNat x).2:Int) else -1):=by
  unfold gW
  rw [hk]
  have ht2:qZ x (i:Int)=true:=ht
  have ef:(fun y=>o6 y (i:Int))=gM i:=rfl
  cases dm most 0 20000 <;> simp [ht2,ef]
 rw [ea]
 clear ea
 obtain ⟨Yw,Lg⟩:∃ Yw,Hid (Yw=if dm most 0 20000 then (lN (gM i) most.toNat x).1 else x):=⟨_,rfl⟩
 obtain ⟨Yn,Np⟩:∃ Yn,Hid (Yn=if dm most 0 20000 then ((lN (gM i) most.toNat x).2:Int) else -1):=⟨_,rfl⟩
 rw [← Lg.out,← Np.out]
 go_enter Tryz.func14,Tryz.ntmps14
 go_wp2_with fail;refine ax w zB fun bb=>?_;refine (gq x a b d e p q r s _ (HW.out.at bb) m).mono ?_;rintro _ w1 ⟨rfl,ah⟩;have aW:Below w.heap.size w w1:=bT bb ah;have ay:=ah.size;(try simp at ay);have zz:=And.intro (hQ ah (b:=w.heap.size+1+1)) <| And.intro (hQ ah (b:=w.heap.size+1)) <| hQ ah (b:=w.heap.size);(try simp [go_sem] at zz);(try clear aH cB cK bq);(try clear bz di dz bZ);(try clear dw dV eD dJ);obtain ⟨aH,bz,dw⟩:=zz;obtain ⟨cB,cK,bq⟩:=bO aH;obtain ⟨di,dz,bZ⟩:=bO bz;obtain ⟨dV,eD,dJ⟩:=bO dw;clear ah bb
 rw [hk]
 go_wp2_with fail
 refine (lH x.hands.length i w.heap.size d r _ (by simp [*]) M3).mono ?_
 rintro _ _ ⟨rfl,rfl⟩
 rw [ht]
 go_wp2_with fail
 refine ax w zB fun bb=>?_
 refine (zw x most i (w.heap.size+1) a b d e p q r s _ (HW.out.at bb) HZ.out m hb tS (by simp [*]) (fun y lo B W hby hyl hc BX=>BV y i (w.heap.size+1) B lo W hby tO hc BX) (fun y hy=>⟨KL hy,Hl y i⟩)).mono ?_
 rintro _ w6 ⟨⟨v1,v2,v3,v4,rfl,o1,o2,o3,o4⟩,il⟩
 rw [← Lg.out] at o1 o2 o3 o4
 rw [← Lg.out,← Np.out]
 have Rs:Below w.heap.size w w6:=bT bb il
 have xW:=il.size;(try (simp at xW));have zz:=hQ il (b:=w.heap.size+1+1);(first|(simp [go_sem,aH,bq] at zz)|(simp [go_sem] at zz));(try clear cB cK);(try clear aH);have aH:=zz;clear zz;(try clear bq);obtain ⟨cB,cK,bq⟩:=bO aH
 clear il bb
 have k1:=av o1 (lo':=w1.heap.size) tS
 have k2:=av o2 (lo':=w1.heap.size) tS
 have k3:=av o3 (lo':=w1.heap.size) tS
 have k4:=av o4 (lo':=w1.heap.size) tS
 clear o1 o2 o3 o4
 obtain ⟨ya,yp,rfl,_⟩:=ag.seg k1
 obtain ⟨yb,yq,rfl,_⟩:=ai.seg k2
 obtain ⟨yd,yr,rfl,_⟩:=gG.seg k3
 obtain ⟨ye,ys,rfl,_⟩:=jb.seg k4
 clear Lg Np
 go_wp2
 refine bodyPost_ret (v:=.tuple #[.agg #[.int .i64 Yw.ch.cap,.int .i64 Yw.ch.sent,.int .i64 Yw.ch.got,.int .i64 Yw.ch.fin,.slice ya Yw.ch.cells.length yp,.slice yb Yw.ch.words.length yq,.slice yd Yw.hands.length yr,.slice ye Yw.deals.length ys,.int .i64 Yw.now],.int .i64 Yn]) (by simp [results,Tryz.results14,go_sem, *]) rfl ⟨⟨_,_,_,_,rfl,av (lo:=w1.heap.size) (by (repeat (first|with_reducible exact k1|((with_reducible refine aS ?_ ?_ _);rotate_left;(focus exact own_ne k1 (by (try simp);try omega)))))) tO,av (lo:=w1.heap.size) (by (repeat (first|with_reducible exact k2|((with_reducible refine aS ?_ ?_ _);rotate_left;(focus exact own_ne k2 (by (try simp);try omega)))))) tO,av (lo:=w1.heap.size) (by (repeat (first|with_reducible exact k3|((with_reducible refine aS ?_ ?_ _);rotate_left;(focus exact own_ne k3 (by (try simp);try omega)))))) tO,av (lo:=w1.heap.size) (by (repeat (first|with_reducible exact k4|((with_reducible refine aS ?_ ?_ _);rotate_left;(focus exact own_ne k4 (by (try simp);try omega)))))) tO⟩,by exact zB⟩
theorem lQ (x:Wo) (who most:Int) (a b d e:Option Addr) (p q r s:Nat) (w:World) (h:iG w w.heap.size x a b d e) (z:kT x a b d e p q r s) (m:lJ x) :
  Calls Tryz.prog 14 #[xc x a b d e p q r s,.int .i64 who,.int .i64 most] w fun r w'=>iM w w' (gW x who most).1 (.int .i64 (gW x who most).2) r:=by
 cases hk:bJ x with
 | false =>
  rw [show gW x who most=(Wo.zero,-1) by simp [gW,hk]]
  exact Ew x who most a b d e p q r s w h m hk
 | true =>
  cases ht:kG x.hands.length who with
  | false =>
   rw [show gW x who most=(Wo.zero,-1) by simp [gW,hk,qZ,ht]]
   exact Ex x who most a b d e p q r s w h m hk ht
  | true =>
   obtain ⟨i,rfl⟩:∃ i:Nat,who=(i:Int):=⟨who.toNat,by simp [kG,dm] at ht;omega⟩
   exact Ey x i most a b d e p q r s w h z m hk (by simp [kG,dm] at ht;omega)
end
section
open Go.RowKit
section
variable {P:Program} {ops:Array Oper} {Q:Exit→Act→World→Prop}
theorem uT {id:Nat} {a:Act} {w:World} (T:List (List Nat)) (ds:List Nat) (Φ:(Nat→Bool)→(Nat→Value)→World→Prop) {F:(Nat→Value)→Act} (hm:P.follows .mixedOrders=true) (hT:mZ T 0 ops.toList=true) (Pp:Nat.ble T.length ops.size=true)
  (hF:∀ s,fill a ds s=F s) (h0:Φ (fun _=>false) (fun k=>a.tmps.getD k undef) w.drew) (steps:Steps P ops Q T F Φ 0 ops.toList)
  (fin:∀ (l:Nat→Bool) (s:Nat→Value) (w:World),(∀ i,Nat.blt i ops.size=true→l i=true)→Φ l s w→Q .normal (F s) w):(Code.region id ops true).wp P Q a w:=by
 refine wp_region_any hm ?_
 have:=wQ hT Pp steps fin ops.size (Array.replicate ops.size false) (fun _=>false) (fun k=>a.tmps.getD k undef) w.drew (by simp) (fun i hi=>by simp [hi]) (by
  generalize ops.size=n
  induction n with
  | zero=>simp [left]
  | succ n ih=>simp [left];exact ih) (fun i e o _ _ _ h=>by cases h) h0
 rw [← hF,wP] at this
 exact this
end
theorem Nq (n:Nat) (h1:1≤n) (h6:n≤6) (w:World):Calls Tryz.prog 97 #[.int .u64 1,.int .u64 n] w fun r w'=>r=.returned (.tuple #[.int .u64 0,.int .u64 n])∧w=w':=by
 have hn:n=1∨n=2∨n=3∨n=4∨n=5∨n=6:=by omega
 rcases hn with rfl|rfl|rfl|rfl|rfl|rfl
 all_goals
  go_enter Tryz.func97,Tryz.ntmps97
  go_wp2_with (go_at_call 147;go_enter Tryz.func147,Tryz.ntmps147)
  exact bodyPost_ret (by simp [results,Tryz.results97,go_sem] <;> rfl) rfl ⟨rfl,rfl⟩
theorem cutFrom (k n g:Nat) (hk:k<n) (W:World):(Instr.sliceAt 32 (.slice (some ⟨g,0,none⟩) n n) (some (.int .i64 k)) none none).run Tryz.prog W=.ok (.slice (some ⟨g,k*14,none⟩) (n - k) (n - k)) W:=by
 have he:Tryz.prog.underlying 32=some (.slice (Tryz.prog.elem 32)):=by kernel_rfl
 have e2:Tryz.prog.elem 32=49:=by kernel_rfl
 rw [run_sliceAt_slice _ _ _ _ _ _ he,run_slice_l _ _ _ _ _ he _ _ tO tO,e2]
 have hne:¬ n=k:=by omega
 simp [go_sem,sliced,hne,Addr.add]
 exact fun e=>e.symm
theorem PX (k n g:Nat) (hk:k<n) (W:World):(Instr.sliceAt 32 (.slice (some ⟨g,0,none⟩) n n) none (some (.int .i64 k)) none).run Tryz.prog W=.ok (.slice (some ⟨g,0,none⟩) k n) W:=by
 have he:Tryz.prog.underlying 32=some (.slice (Tryz.prog.elem 32)):=by kernel_rfl
 have e2:Tryz.prog.elem 32=49:=by kernel_rfl
 rw [run_sliceAt_slice _ _ _ _ _ _ he,run_slice_h _ _ _ _ _ he _ _ tO tO,e2]
 simp [go_sem,sliced]
theorem pG {P:Program} (w:World) (dT sT ty elem:TypeId) (g o dLen dCap k:Nat) (a:Addr) (sLen sCap N:Nat) (z:Value) (t:TypeId) (m:Nat) (hm:Nat.min sLen dLen=m)
  (hu:P.underlying dT=some (.slice elem)) (hs:(P.info? elem).map (·.size)=some k) (hg:w.heap[g]?=some (.cells (Array.replicate N z) t (0,0))) (hfit:o+m*k≤N)
  (hsrc:∀ j,j<m*k→w.cell? (a.add j)=some z) (h1:z.oneCell'=true) :
  (Builtin.copy_ #[dT,sT] ty #[.slice (some ⟨g,o,none⟩) dLen dCap,.slice (some a) sLen sCap]).run P w=.ok (goInt m) w:=by
 have:=qy (P:=P) w dT sT ty elem g o dLen dCap k a sLen sCap (Array.replicate N z) t (List.replicate (m*k) z) hu hs hg (by simp [hm]) (fun j v hj=>by
  rw [List.getElem?_replicate] at hj
  split at hj
  ·rename_i hlt
   rw [hsrc j hlt];simpa using hj
  ·cases hj) (by simpa using hfit) (fun v hv=>by rw [(List.mem_replicate.1 hv).2];exact h1)
 rw [this,hm]
 congr 1
 have e:((Array.replicate N z).toList.take o ++ List.replicate (m*k) z ++ (Array.replicate N z).toList.drop (o+(List.replicate (m*k) z).length)).toArray=Array.replicate N z:=by
  apply Array.ext_getElem?
  intro j
  have hl:((Array.replicate N z).toList.take o ++ List.replicate (m*k) z ++ (Array.replicate N z).toList.drop (o+(List.replicate (m*k) z).length))=List.replicate N z:=by
   simp only [Array.toList_replicate,List.take_replicate,List.drop_replicate,List.length_replicate,List.replicate_append_replicate]
   congr 1
   omega
  rw [hl]
  simp
 rw [e]
 exact setRow_self w g _ t (0,0) hg
theorem Ik {w:World} {g N M:Nat} {t:TypeId} {z:Value} (hg:w.heap[g]?=some (.cells (Array.replicate N z) t (0,0))) (hM:M≤N):∀ j,j<M→w.cell? ((⟨g,0,none⟩:Addr).add j)=some z:=by
 intro j hj
 have e:(⟨g,0,none⟩:Addr).add j=⟨g,j,none⟩:=by
  simp [Addr.add];intro e;exact e.symm
 rw [e]
 have h2:j<N:=by omega
 simp [World.cell?,hg,h2]
theorem Il (n:Nat):madeCells (aa Ha.zero) (n*14)=Array.replicate (n*14) (.int .i64 0):=by
 apply Array.ext_getElem?
 intro j
 by_cases hj:j<n*14
 ·have h:j % 14=0∨j % 14=1∨j % 14=2∨j % 14=3∨j % 14=4∨j % 14=5∨j % 14=6∨j % 14=7∨j % 14=8∨j % 14=9∨j % 14=10∨j % 14=11∨j % 14=12∨j % 14=13:=by omega
  rw [Array.getElem?_replicate,if_pos hj]
  have e:(madeCells (aa Ha.zero) (n*14))[j]?=some ((aa Ha.zero)[j % 14]!):=by simp [madeCells,hj,aa]
  rw [e]
  rcases h with h|h|h|h|h|h|h|h|h|h|h|h|h|h <;> rw [h] <;> rfl
 ·rw [Array.getElem?_eq_none (by simp [madeCells];omega),Array.getElem?_eq_none (by simp;omega)]
theorem Ez (n g0:Nat) (h1:1≤n) (h6:n≤6) (w:World) (h0:∀ j,j<14→w.cell? ⟨g0,j,none⟩=some (.int .i64 0)) (l0:g0<w.heap.size) :
  Calls Tryz.prog 47 #[.slice (some ⟨g0,0,none⟩) 1 1,.int .i64 n] w fun r w'=>(∃ g,r=.returned (.slice (some ⟨g,0,none⟩) n n)∧w.heap.size≤g∧hp w' g=some (.cells (Array.replicate (n*14) (.int .i64 0)) 49))∧Below w.heap.size w w':=by
 have hmk:=Fw n tO
 simp only [Il] at hmk
 have hn0:decide ((n:Int)<0)=false:=by simp
 have hn1:decide ((9223372036854775807:Int)<(n:Int))=false:=by simp;omega
 have M:=fun w=>Nq n h1 h6 w
 have MM:=Lib.hid M
 clear M
 have H0:=Lib.hid h0
 clear h0
 go_enter Tryz.func47,Tryz.ntmps47
 go_wp2_with (go_at_call 97;refine (MM.out _).mono ?_;rintro _ _ ⟨rfl,rfl⟩)
 generalize Cv:World.alloc w _=wa
 have hga:hp wa w.heap.size=some (.cells (Array.replicate (n*14) (.int .i64 0)) 49):=by rw [← Cv];exact heap_alloc_new _ _
 have hBa:Below w.heap.size w wa:=by rw [← Cv];exact aQ _ _
 have PY:w.heap.size<wa.heap.size:=(bO hga).2.2
 clear Cv hmk
 rw [pG (P:=Tryz.prog) wa 32 32 3 49 w.heap.size 0 n n 14 ⟨g0,0,none⟩ 1 1 (n*14) _ 49 1 (by simp [Nat.min_def];omega) Tryz.underlying32 (by kernel_rfl) hga tO (fun j hj=>by rw [show (⟨g0,0,none⟩:Addr).add j=⟨g0,j,none⟩ by simp [Addr.add];intro e;exact e.symm];exact (hBa.cell (p:=⟨g0,j,none⟩) l0).trans (H0.out j tO)) rfl]
 go_wp2_with fail
 go_loopw [8] (fun v wr=>∃ k:Nat,1≤k∧k≤n∧v=.int .i64 k∧Below wa.heap.size wa wr) (fun v _=>n - (intOf v).toNat)
 case atStart=>exact ⟨1,Nat.le_refl _,h1,rfl,Below.refl _ _⟩
 case round =>
  obtain ⟨k,hk1,hkn,rfl,hBr⟩:=hrel
  by_cases hlt:k<n
  ·have hgr:=(hBr.block w.heap.size PY).trans hga
   have W9:w.heap.size<wr.heap.size:=by have:=hBr.size;omega
   have hF:=fun W=>cutFrom k n w.heap.size hlt W
   have hT:=fun W=>PX k n w.heap.size hlt W
   obtain ⟨m,hm⟩:∃ m,Nat.min k (n - k)=m:=⟨_,rfl⟩
   have hm1:1≤m:=by have e:min k (n - k)=m:=hm;omega
   have hm2:m≤n - k:=by have e:min k (n - k)=m:=hm;omega
   have X6:m≤k:=by have e:min k (n - k)=m:=hm;omega
   go_wp2_with fail
   refine uT [[],[],[],[1,2],[],[],[4,5],[1,2,3,4,5,6],qB [],qB [8]] [38,39,40,41,42,43,44,45,46,8] (fun l s wx=>(Below wr.heap.size wr wx)∧(l 9=false→s 8=.int .i64 k)∧(l 0=true→s 38=.int .i64 k)∧(l 1=true→s 39=.slice (some ⟨w.heap.size,0,none⟩) n n)∧(l 2=true→s 40=.int .i64 k)∧(l 3=true→s 41=.slice (some ⟨w.heap.size,k*14,none⟩) (n - k) (n - k))∧(l 4=true→s 42=.slice (some ⟨w.heap.size,0,none⟩) n n)∧(l 5=true→s 43=.int .i64 k)∧(l 6=true→s 44=.slice (some ⟨w.heap.size,0,none⟩) k n)∧(l 7=true→s 45=.int .i64 m)∧(l 8=true→s 46=.int .i64 ((k:Int)+m))∧(l 9=true→s 8=.int .i64 ((k:Int)+m))) (by kernel_rfl) (by kernel_rfl) (by kernel_rfl) (fun s=>by (simp only [fill,fC,List.setIfInBounds_toArray,List.set_cons_zero,List.set_cons_succ];rfl)) (⟨(Below.refl _ _).drew,fun _=>rfl,nB,nB,nB,nB,nB,nB,nB,nB,nB,nB⟩) ?_ ?_
   refine ⟨?_,?_,?_,?_,?_,?_,?_,?_,?_,?_,trivial⟩;iterate 10 (intro l s wx hl hd hn hf K hK;rotate_left)
   ·intro l s w3 hall hf
    have hb3:=hf.1
    have ec:=((jD hf).2.2.2 (hall 9 rfl))
    simp only [ec]
    clear ec hf hall
    go_wp2
    go_roundw
    case rel=>exact ⟨k+m,by omega,by omega,by (try simp) <;> rfl,hBr.trans (hb3.mono hBr.size)⟩
    case measure=>simp [intOf];omega
   ·have e8:=hf.out.2.1 (hn 9 rfl)
    go_simp
    refine hK.out (upd s 38 (.int .i64 k)) _ _ (by simp [ae,e8] <;> rfl) (kB (kX (fun _=>rfl) id) hf.out)
   ·go_simp
    refine hK.out (upd s 39 (.slice (some ⟨w.heap.size,0,none⟩) n n)) _ _ (by simp [ae] <;> rfl) (kB (kA (kX (fun _=>rfl) id)) hf.out)
   ·have e8:=hf.out.2.1 (hn 9 rfl)
    go_simp
    refine hK.out (upd s 40 (.int .i64 k)) _ _ (by simp [ae,e8] <;> rfl) (kC (kX (fun _=>rfl) id) hf.out)
   ·have e1:=(hf.out.2.2.2.1 (hd 1 rfl))
    have e2:=(hf.out.2.2.2.2.1 (hd 2 rfl))
    go_simp
    refine hK.out (upd s 41 (.slice (some ⟨w.heap.size,k*14,none⟩) (n - k) (n - k))) _ _ (by simp [ae,e1,e2] <;> rfl) (kC (kA (kX (fun _=>rfl) id)) hf.out)
   ·go_simp
    refine hK.out (upd s 42 (.slice (some ⟨w.heap.size,0,none⟩) n n)) _ _ (by simp [ae] <;> rfl) (kC (kB (kX (fun _=>rfl) id)) hf.out)
   ·have e8:=hf.out.2.1 (hn 9 rfl)
    go_simp
    refine hK.out (upd s 43 (.int .i64 k)) _ _ (by simp [ae,e8] <;> rfl) (kC (kB (kA (kX (fun _=>rfl) id))) hf.out)
   ·have e4:=((jC hf.out).2.2.1 (hd 4 rfl))
    have e5:=((jC hf.out).2.2.2.1 (hd 5 rfl))
    go_simp
    refine hK.out (upd s 44 (.slice (some ⟨w.heap.size,0,none⟩) k n)) _ _ (by simp [ae,e4,e5] <;> rfl) (kD (kX (fun _=>rfl) id) hf.out)
   ·have e3:=((jC hf.out).2.1 (hd 3 rfl))
    have e6:=((jD hf.out).1 (hd 6 rfl))
    have hg:=((hf.out.1).block w.heap.size W9).trans hgr
    have hrun:=pG (P:=Tryz.prog) wx 32 32 3 49 w.heap.size (k*14) (n - k) (n - k) 14 ⟨w.heap.size,0,none⟩ k n (n*14) _ 49 m hm Tryz.underlying32 (by kernel_rfl) hg tO (Ik hg tO) rfl
    go_simp
    refine hK.out (upd s 45 (.int .i64 m)) _ _ (by simp [ae,e3,e6] <;> rfl) (kD (kA (kX (fun _=>rfl) id)) hf.out)
   ·have e0:=(hf.out.2.2.1 (hd 0 rfl))
    have e7:=((jD hf.out).2.1 (hd 7 rfl))
    have hW:IntKind.i64.wrap ((k:Int)+(m:Int))=(k:Int)+m:=IntWalk.i64_in _ tO
    go_simp
    refine hK.out (upd s 46 (.int .i64 ((k:Int)+m))) _ _ (by simp [ae,e0,e7] <;> rfl) (kD (kB (kX (fun _=>rfl) id)) hf.out)
   ·have e8:=((jD hf.out).2.2.1 (hd 8 rfl))
    go_simp
    refine hK.out (upd s 8 (.int .i64 ((k:Int)+m))) _ _ (by simp [ae,e8] <;> rfl) (kA (kX (fun h9=>nU h9 (show upd l 9 true 9=true from rfl)) (kD (kA (fun _=>fun _=>rfl)))) hf.out)
  ·have:k=n:=by omega
   subst this
   go_wp2
   go_ret
   exact ⟨⟨_,rfl,Nat.le_refl _,(hBr.block w.heap.size PY).trans hga⟩,hBa.trans (hBr.mono hBa.size)⟩
end
section
open Go.RowKit
theorem KM (w:World) (x:Value) (t:TypeId):∀ j u,[x][j]?=some u→(w.alloc (.cells #[x] t)).cell? ((⟨w.heap.size,0,none⟩:Addr).add j)=some u:=by
 intro j u h
 have hj:j<1:=(List.getElem?_eq_some_iff.1 h).1
 have:j=0:=by omega
 subst this
 simp [Addr.add] at h ⊢;exact h
theorem o8 (st:Int) (c:C3):∀ (l:List C3) (n:Nat),iZ st n (l ++ [c])=iZ st n l ++ (if c.s == st then [((n+l.length:Nat):Int)] else [])
 | [],n=>by simp [iZ]
 | d :: l,n=>by
  have h:=o8 st c l (n+1)
  have e:n+1+l.length=n+(d :: l).length:=by simp;omega
  rw [e] at h
  simp only [List.cons_append,iZ]
  split <;> simp [h]
theorem lS (st:Int):∀ (l:List C3) (n:Nat),(iZ st n l).length≤l.length
 | [],n=>by simp [iZ]
 | d :: l,n=>by
  have h:=lS st l (n+1)
  simp only [iZ]
  split <;> simp <;> omega
def mE (cells:List C3) (st:Int) (k:Nat):List Int:=iZ st 0 (cells.take k)
theorem E5 (cells:List C3) (st:Int):mE cells st 0=[]:=by simp [mE,iZ]
theorem uU {cells:List C3} {st:Int} {k:Nat} {c:C3} (hk:k<cells.length) (hc:cells.getD k ⟨0,0,0⟩=c) (h:(c.s == st)=true):mE cells st (k+1)=mE cells st k ++ [(k:Int)]:=by
 unfold mE
 rw [mY cells k hk,hc,o8,if_pos h,List.length_take_of_le tO];simp
theorem zx {cells:List C3} {st:Int} {k:Nat} {c:C3} (hk:k<cells.length) (hc:cells.getD k ⟨0,0,0⟩=c) (h:(c.s == st)=false):mE cells st (k+1)=mE cells st k:=by
 unfold mE
 rw [mY cells k hk,hc,o8,h];simp
theorem BZ (c:Ch) (st:Int):mE c.cells st c.cells.length=vz c st:=by simp [mE,vz]
theorem uV (cells:List C3) (st:Int) (k:Nat):(mE cells st k).length≤k:=by
 have h:=lS st (cells.take k) 0
 have:=List.length_take_le k cells
 unfold mE;omega
theorem KN (c:Ch) (st:Int) (a b:Option Addr) (p q:Nat) (w:World) (h1:eY w w.heap.size a c.cells) (hm:c.cells.length≤1099511627776) :
  Calls Tryz.prog 113 #[.agg #[.int .i64 c.cap,.int .i64 c.sent,.int .i64 c.got,.int .i64 c.fin,.slice a c.cells.length p,.slice b c.words.length q],.int .i64 st] w fun r w'=>(∃ v,r=.returned v∧ai w' w.heap.size v (vz c st))∧Below w.heap.size w w':=by
 obtain ⟨i0,hi0,hz0,hz1,hz2⟩:=info_parts ku
 have HE:=Lib.hid (BZ c st)
 obtain ⟨cap,sent,got,fin,cells,words⟩:=c
 simp only at *
 have H1:=Lib.hid h1
 clear h1
 go_enter Tryz.func113,Tryz.ntmps113
 go_wp2
 go_loopw [5,6] (fun v i wr=>∃ k:Nat,k≤cells.length∧i=.int .i64 k∧ai wr (w.heap.size+1) v (mE cells st k)∧wr.cell? ⟨w.heap.size,4,none⟩=some (.slice a cells.length p)∧w.heap.size<wr.heap.size∧Below w.heap.size w wr) (fun _ i _=>cells.length - (intOf i).toNat)
 case atStart=>exact ⟨0,Nat.zero_le _,rfl,by rw [E5];exact gu _ _ _ _ _ (by simp) (by simp),by simp,by (simp;try omega),by exact zB⟩
 case round =>
  obtain ⟨k,hk,rfl,hown,x4,hlt1,hB⟩:=hrel
  by_cases hlt:k<cells.length
  ·obtain h0|⟨bb,bo,rfl,hb,hc⟩:=H1.out
   ·omega
   have c0:=(hB.cell (p:=⟨bb,bo+k*3+0,none⟩) hb).trans (hc k 0 hlt tO)
   simp only [ib,C3.val,Nat.add_zero] at c0
   clear hc
   generalize hcg:cells.getD k ⟨0,0,0⟩=c at c0
   have HC:=Lib.hid hcg
   clear hcg
   have hle:=uV cells st k
   have hk0:(0:Int)≤(k:Int):=by omega
   have hk1:(k:Int)<(cells.length:Int):=by omega
   go_wp2_with (at_builtin;refine wpList_append_own _ rfl _ _ 29 rfl (w.heap.size+1) 2 i0 _ 1 8 Tryz.underlying29 hi0 hz0 hz1 hz2 rfl (by decide) _ _ _ rfl (hown.alloc _) ⟨wr.heap.size,0,none⟩ 1 1 [.int .i64 k] rfl rfl (KM _ _ _) (by simp [Value.oneCell']) ?c3 ?c4 ?c5 ?_)
   case c3=>unfold maxLen;omega
   case c4=>omega
   case c5=>simp;omega
   ·intro v4 w4 kJ hg _
    have hne:=own_ne hown (b:=w.heap.size) tO
    have hx4:w4.cell? ⟨w.heap.size,4,none⟩=some (.slice (some ⟨bb,bo,none⟩) cells.length p) :=
     (World.cell?_of_block (hg.block w.heap.size (by simp;omega) (fun e=>hne e.symm))).trans (gQ x4)
    have hs4:=hg.size
    simp at hs4
    have hB4:Below w.heap.size w w4:=iE zB hg (by simp;omega) (fun q hq=>by have:=(hown.lt q hq).1;omega)
    have ht:(c.s == st)=true:=by assumption
    have hown5:ai w4 (w.heap.size+1) v4 (mE cells st (k+1)):=by
     rw [uU hlt HC.out ht];exact ai.snoc kJ
    clear kJ hg hne x4 hown
    go_wp2
    go_roundw
    case rel=>exact ⟨k+1,by omega,by go_num,hown5,hx4,by omega,hB4⟩
    case measure=>simp [intOf];omega
   ·go_roundw
    case rel=>exact ⟨k+1,by omega,by go_num,by rw [zx hlt HC.out ‹_›];exact hown,x4,hlt1,hB⟩
    case measure=>simp [intOf];omega
  ·have:k=cells.length:=by omega
   subst this
   go_wp2
   go_ret
   exact ⟨⟨_,rfl,av (HE.out ▸ hown) tO⟩,hB⟩
theorem qh (st:Int):∀ (l:List C3) (n:Nat) (x:Int),x ∈ iZ st n l→∃ k:Nat,x=(k:Int)∧n≤k∧k<n+l.length
 | [],n,x,h=>by simp [iZ] at h
 | d :: l,n,x,h=>by
  simp only [iZ] at h
  have hr:x ∈ iZ st (n+1) l→∃ k:Nat,x=(k:Int)∧n≤k∧k<n+(d :: l).length:=fun h=>by
   obtain ⟨k,h1,h2,h3⟩:=qh st l (n+1) x h
   exact ⟨k,h1,by omega,by simp;omega⟩
  split at h
  ·rcases List.mem_cons.1 h with rfl|h
   ·exact ⟨n,rfl,Nat.le_refl _,by simp⟩
   ·exact hr h
  ·exact hr h
def elemOf (cells:List C3) (i:Int):Int:=(cells.getD i.toNat ⟨0,0,0⟩).e
def lT (cells:List C3) (l:List Int) (k:Nat):List Int:=(l.take k).map (elemOf cells)
theorem Ca {cells:List C3} {l:List Int} {k:Nat} {x:Int} (hk:k<l.length) (hx:l.getD k 0=x):lT cells l (k+1)=lT cells l k ++ [elemOf cells x]:=by
 unfold lT
 have e:l.take (k+1)=l.take k ++ [x]:=by
  rw [List.take_succ_eq_append_getElem hk,← hx];simp [List.getD,List.getElem?_eq_getElem hk]
 rw [e,List.map_append];rfl
theorem E8 (cells:List C3) (l:List Int) (k:Nat):(lT cells l k).length≤k:=by
 have:=List.length_take_le k l
 simp [lT];omega
theorem E9 {c:Ch} (h:aK c=true):lT c.cells (vz c 2) (vz c 2).length=keptIn c:=by
 unfold lT keptIn
 rw [List.take_length,h];rfl
theorem Cb (c:Ch) (a b:Option Addr) (p q:Nat) (w:World) (h1:eY w w.heap.size a c.cells) (h2:eQ w w.heap.size b c.words) (hm:c.cells.length≤1099511627776) :
  Calls Tryz.prog 61 #[.agg #[.int .i64 c.cap,.int .i64 c.sent,.int .i64 c.got,.int .i64 c.fin,.slice a c.cells.length p,.slice b c.words.length q]] w fun r w'=>(∃ v,r=.returned v∧ai w' w.heap.size v (keptIn c))∧Below w.heap.size w w':=by
 obtain ⟨i0,hi0,hz0,hz1,hz2⟩:=info_parts ku
 have H1:=Lib.hid h1
 have H2:=Lib.hid h2
 clear h1 h2
 by_cases hc:aK c=true
 ·have HV:=Lib.hid (E9 hc)
  have HL:Hid (∀ x ∈ vz c 2,∃ k:Nat,x=(k:Int)∧k<c.cells.length):=fun x hx=>by
   obtain ⟨k,h1,_,h3⟩:=qh 2 c.cells 0 x hx
   exact ⟨k,h1,by omega⟩
  have hll:(vz c 2).length≤c.cells.length:=by have:=lS 2 c.cells 0;unfold vz;omega
  go_enter Tryz.func61,Tryz.ntmps61
  go_wp2_with fail
  refine (kI c a b p q _ (((H1.out).below zB).more (by simp;try omega)) (((H2.out).below zB).more (by simp;try omega))).mono ?_
  rintro _ w1 ⟨rfl,hb1⟩
  have hB1:Below w.heap.size w w1:=bT zB hb1
  have hs1:=hb1.size
  simp at hs1
  have:=fun o=>hb1.cell (p:=⟨w.heap.size,o,none⟩) (by simp;try omega)
  have hout1:ai w1 (w.heap.size+1) (.slice (some ⟨w.heap.size+1,0,none⟩) 0 0) []:=own_below (gu _ _ _ _ _ (by simp) (by simp)) hb1
  go_wp2_with fail
  refine (KN c 2 a b p q _ (((H1.out).below hB1).more tO) hm).mono ?_
  rintro _ w2 ⟨⟨v2,rfl,hown2⟩,hb2⟩
  have hB2:Below w.heap.size w w2:=bT zB hb2
  have hs2:=hb2.size
  have hx4:w2.cell? ⟨w.heap.size,4,none⟩=some (.slice a c.cells.length p):=(hb2.cell (by simp;omega)).trans (by simp [*,go_sem])
  have hout2:=own_below hout1 hb2
  have hne2:∀ g,(Value.slice (some ⟨w.heap.size+1,0,none⟩) 0 0).ownBlock=some g→v2.ownBlock≠some g:=fun g hg he=>by
   simp [Value.ownBlock] at hg
   subst hg
   have:=(hown2.lt _ he).1
   omega
  obtain ⟨la,lc,rfl,_⟩:=ai.seg hown2
  generalize PZ:vz c 2=l at *
  have HA:=Lib.hid PZ
  clear PZ hout1 hb1 hb2
  go_wp2_with fail
  go_loopw [3,5] (fun v i wr=>∃ k:Nat,k≤l.length∧i=.int .i64 k∧ai wr (w.heap.size+1) v (lT c.cells l k)∧(∀ g,v.ownBlock=some g→(Value.slice la l.length lc).ownBlock≠some g)∧ai wr w1.heap.size (.slice la l.length lc) l∧wr.cell? ⟨w.heap.size,4,none⟩=some (.slice a c.cells.length p)∧w.heap.size<wr.heap.size∧Below w.heap.size w wr) (fun _ i _=>l.length - (intOf i).toNat)
  case atStart=>exact ⟨0,Nat.zero_le _,rfl,(show lT c.cells l 0=[] from rfl) ▸ hout2,hne2,hown2,hx4,by omega,hB2⟩
  case round =>
   clear hout2 hne2 hown2 hx4 hB2
   obtain ⟨k,hk,rfl,hown,hne,hol,x4,hlt1,hB⟩:=hrel
   by_cases hlt:k<l.length
   ·obtain ⟨i,hxi,hi⟩:=HL.out (l.getD k 0) (by rw [List.getD,List.getElem?_eq_getElem hlt];exact List.getElem_mem hlt)
    have hgl:∃ g,la=some ⟨g,0,none⟩∧wr.cell? ⟨g,k,none⟩=some (.int .i64 (l.getD k 0)):=by
     rcases hol.2 with ⟨h0,h00⟩|⟨g,cap,cur,h0,_⟩
     ·omega
     ·simp at h0
      refine ⟨g,h0.1,?_⟩
      have:=hol.cells (g:=g) (by rw [h0.1];rfl) k (.int .i64 (l.getD k 0)) (by simp [ints,List.getD,List.getElem?_eq_getElem hlt])
      rw [← this];congr 1;by_cases e:k=0 <;> simp [Addr.add,e]
    obtain ⟨g,rfl,cl⟩:=hgl
    obtain h0|⟨bb,bo,rfl,hb,hcc⟩:=H1.out
    ·omega
    have c1:=(hB.cell (p:=⟨bb,bo+i*3+1,none⟩) hb).trans (hcc i 1 hi tO)
    simp only [ib,C3.val] at c1
    clear hcc
    have he:elemOf c.cells (l.getD k 0)=(c.cells.getD i ⟨0,0,0⟩).e:=by rw [hxi];simp [elemOf]
    have Qa:=Lib.hid he
    generalize (c.cells.getD i ⟨0,0,0⟩).e=ev at c1 Qa
    clear he
    have HX:=Lib.hid hxi
    rw [hxi] at cl
    clear hxi
    have hle:=E8 c.cells l k
    have hk0:(0:Int)≤(k:Int):=by omega
    have hk1:(k:Int)<(l.length:Int):=by omega
    have Si:(0:Int)≤(i:Int):=by omega
    have hin1:(i:Int)<(c.cells.length:Int):=by omega
    go_wp2_with fail
    have hgw:g<wr.heap.size:=World.block_lt_of_cell? _ _ cl
    have hbw:bb<wr.heap.size:=by omega
    have hn1:some w.heap.size≠u3.ownBlock:=fun e=>own_ne hown (b:=w.heap.size) tO e.symm
    have hn2:some g≠u3.ownBlock:=fun e=>hne g e.symm rfl
    have Qb:some bb≠u3.ownBlock:=fun e=>own_ne hown (b:=bb) tO e.symm
    go_region_held3 (fun w'=>w'.cell? ⟨w.heap.size,4,none⟩=some (.slice (some ⟨bb,bo,none⟩) c.cells.length p)∧w'.cell? ⟨g,k,none⟩=some (.int .i64 i)∧w'.cell? ⟨bb,bo+i*3+1,none⟩=some (.int .i64 ev))
     (first
      | (simp [*,go_sem])
      | (refine ⟨World.grownBy.cell hgrow (by simp [*,go_sem]) hn1,World.grownBy.cell hgrow (by simp [*,go_sem]) hn2,World.grownBy.cell hgrow (by simp [*,go_sem]) Qb⟩))
     (first|(refine step_append_lies _ (by rfl) _ _ _ (by rfl) (w.heap.size+1) 2 i0 _ 1 8 Tryz.underlying29 hi0 hz0 hz1 hz2 rfl tO u3 _ _ (by rfl) (World.ownsRow.drew (hown.alloc _)) ⟨wr.heap.size,0,none⟩ 1 1 [.int .i64 ev] (by rfl) (by rfl) (World.news_of_block (cs:=#[.int .i64 ev]) (t:=2) (fr:=(0,0)) (heap_alloc_new wr _)) (by simp [Value.oneCell']) tO (by unfold maxLen;omega) tO (by simp;omega) (wr.heap.size+1) (by simp) ?_;intro gg cap w4 kJ hgrow hat P9))
    have hx4:w4.cell? ⟨w.heap.size,4,none⟩=some (.slice (some ⟨bb,bo,none⟩) c.cells.length p):=World.grownBy.cell hgrow (by simp [*,go_sem]) hn1
    have hs4:=hgrow.size
    simp at hs4
    have hB4:Below w.heap.size w w4:=iE zB hgrow (by simp;omega) (fun q hq=>by have:=(hown.lt q hq).1;omega)
    have Sj:ai w4 w1.heap.size (.slice (some ⟨g,0,none⟩) l.length lc) l:=(World.ownsRow.drew (hol.alloc _)).kept hgrow (.inr hn2)
    have hown5:ai w4 (w.heap.size+1) (.slice (some ⟨gg,0,none⟩) ((lT c.cells l k).length+1) cap) (lT c.cells l (k+1)):=by
     rw [Ca hlt rfl,Qa.out];exact ai.snoc kJ
    have hgg:g≠gg:=by
     rcases hat with hat|hat
     ·intro e;exact hn2 (by rw [hat,e])
     ·omega
    clear kJ hgrow hn1 hn2 Qb hown hol hne x4 hat
    go_wp2
    go_roundw
    case rel=>exact ⟨k+1,by omega,by go_num,hown5,fun g' e1 e2=>hgg (by simp [Value.ownBlock] at e1 e2;omega),Sj,hx4,by omega,hB4⟩
    case measure=>simp [intOf];omega
   ·have:k=l.length:=by omega
    subst this
    go_wp2
    go_ret
    exact ⟨⟨_,rfl,av (HV.out ▸ hown) tO⟩,hB⟩
 ·have HV:Hid (keptIn c=[]):=by simp [keptIn,hc,Hid]
  go_enter Tryz.func61,Tryz.ntmps61
  go_wp2_with fail
  refine (kI c a b p q _ (((H1.out).below zB).more (by simp;try omega)) (((H2.out).below zB).more (by simp;try omega))).mono ?_
  rintro _ w1 ⟨rfl,hb1⟩
  have hB1:Below w.heap.size w w1:=bT zB hb1
  have hout1:ai w1 w.heap.size (.slice (some ⟨w.heap.size+1,0,none⟩) 0 0) []:=own_below (gu _ _ _ _ _ (by simp) (by simp)) hb1
  go_wp2
  go_ret
  refine ⟨⟨_,rfl,?_⟩,by exact zB⟩
  rw [HV.out]
  exact hout1
end
section
open Go.RowKit
theorem Lie.take {w:World} {b n m k:Nat} {f:Nat→Nat→Value} (h:Lie w b n k f) (hm:m≤n):Lie w b m k f:=by
 obtain ⟨c,t,hb,hn,hc⟩:=h
 exact ⟨c,t,hb,Nat.le_trans (Nat.mul_le_mul_right k hm) hn,fun i j hi hj=>hc i j tO hj⟩
theorem Lie.alloc {w:World} {b n k:Nat} {f:Nat→Nat→Value} (h:Lie w b n k f) (o:Obj):Lie (w.alloc o) b n k f:=h.of_block (Below.heap_alloc w o b h.lt)
theorem Im (l:List Int) (x:Int) (i j:Nat):(if i=l.length then Value.int .i64 x else gX l i j)=gX (l ++ [x]) i j:=by
 unfold gX
 by_cases e:i=l.length
 ·subst e;simp [List.getD]
 ·rw [if_neg e]
  by_cases e2:i<l.length
  ·simp [List.getD,List.getElem?_append_left e2]
  ·have h1:l[i]?=none:=List.getElem?_eq_none tO
   have h2:(l ++ [x])[i]?=none:=List.getElem?_eq_none (by simp;omega)
   simp [List.getD,h1,h2]
theorem Nr (w:World) (g:Nat) (h:g=w.heap.size):Lie (w.alloc (.cells #[.int .i64 0,.int .i64 0,.int .i64 0,.int .i64 0,.int .i64 0,.int .i64 0,.int .i64 0,.int .i64 0,.int .i64 0,.int .i64 0,.int .i64 0,.int .i64 0,.int .i64 0,.int .i64 0,.int .i64 0,.int .i64 0,.int .i64 0,.int .i64 0,.int .i64 0,.int .i64 0,.int .i64 0,.int .i64 0,.int .i64 0,.int .i64 0,.int .i64 0,.int .i64 0,.int .i64 0,.int .i64 0,.int .i64 0,.int .i64 0,.int .i64 0,.int .i64 0,.int .i64 0,.int .i64 0,.int .i64 0,.int .i64 0,.int .i64 0,.int .i64 0,.int .i64 0,.int .i64 0] 142)) g 40 1 (gX []):=by
 subst h
 refine ⟨_,_,heap_alloc_new w _,by simp,fun i j hi hj=>?_⟩
 have:j=0:=by omega
 subst this
 have e:(#[Value.int .i64 0,.int .i64 0,.int .i64 0,.int .i64 0,.int .i64 0,.int .i64 0,.int .i64 0,.int .i64 0,.int .i64 0,.int .i64 0,.int .i64 0,.int .i64 0,.int .i64 0,.int .i64 0,.int .i64 0,.int .i64 0,.int .i64 0,.int .i64 0,.int .i64 0,.int .i64 0,.int .i64 0,.int .i64 0,.int .i64 0,.int .i64 0,.int .i64 0,.int .i64 0,.int .i64 0,.int .i64 0,.int .i64 0,.int .i64 0,.int .i64 0,.int .i64 0,.int .i64 0,.int .i64 0,.int .i64 0,.int .i64 0,.int .i64 0,.int .i64 0,.int .i64 0,.int .i64 0]:Array Value)=Array.replicate 40 (.int .i64 0):=rfl
 rw [e]
 simp [gX,hi]
theorem wE (c:Ch) (st:Int) (a b:Option Addr) (p q:Nat) (w:World) (h1:eY w w.heap.size a c.cells) (h2:eQ w w.heap.size b c.words) (m1:c.cells.length≤maxLen) (m2:c.words.length≤maxLen) :
  Calls Tryz.prog 57 #[.agg #[.int .i64 c.cap,.int .i64 c.sent,.int .i64 c.got,.int .i64 c.fin,.slice a c.cells.length p,.slice b c.words.length q],.int .i64 st] w fun r w'=>(∃ v,r=.returned v∧IM w' w.heap.size v (iR c st))∧Below w.heap.size w w':=by
 have H1:=Lib.hid h1
 have H2:=Lib.hid h2
 have M1:=Lib.hid m1
 have M2:=Lib.hid m2
 clear h1 h2 m1 m2
 by_cases hc:aK c=true
 ·have HV:Hid (mE c.cells st c.cells.length=iR c st):=by simp [iR,hc,Hid,BZ]
  have TJ:c.cells.length≤40:=by
   have:=nD c ▸ hc
   simp [lI] at this
   omega
  go_enter Tryz.func57,Tryz.ntmps57
  go_wp2_with fail
  refine (fZ c a b p q _ (((H1.out).below zB).more (by simp)) (((H2.out).below zB).more (by simp)) M1.out M2.out).mono ?_
  rintro _ w1 ⟨rfl,hb1⟩
  have hB1:Below w.heap.size w w1:=bT zB hb1
  have hs1:=hb1.size
  simp at hs1
  have:=fun o=>hb1.cell (p:=⟨w.heap.size,o,none⟩) (by simp)
  have:w.heap.size<w1.heap.size:=by omega
  clear hb1
  have hL0:=Nr w1 w1.heap.size rfl
  have WA:=Lib.hid hL0
  clear hL0
  go_wp2_with fail
  go_loopw [6,15] (fun n i wr=>∃ k:Nat,k≤c.cells.length∧i=.int .i64 k∧n=.int .i64 (mE c.cells st k).length∧Lie wr w1.heap.size 40 1 (gX (mE c.cells st k))∧Below w.heap.size w wr) (fun _ i _=>c.cells.length - (intOf i).toNat)
  case atStart=>exact ⟨0,Nat.zero_le _,rfl,by simp [E5],by rw [E5];exact WA.out,by exact zB⟩
  case round =>
   obtain ⟨k,hk,rfl,rfl,hL,hB⟩:=hrel
   have hs:=hB.size
   have hl:=hL.lt
   by_cases hlt:k<c.cells.length
   ·obtain h0|⟨bb,bo,rfl,hb,hcc⟩:=H1.out
    ·omega
    have c0:=(hB.cell (p:=⟨bb,bo+k*3+0,none⟩) hb).trans (hcc k 0 hlt tO)
    have c1:=(hB.cell (p:=⟨bb,bo+k*3+1,none⟩) hb).trans (hcc k 1 hlt tO)
    have c2:=(hB.cell (p:=⟨bb,bo+k*3+2,none⟩) hb).trans (hcc k 2 hlt tO)
    simp only [ib,C3.val,Nat.add_zero] at c0 c1 c2
    clear hcc
    generalize hcg:c.cells.getD k ⟨0,0,0⟩=d at c0 c1 c2
    have HC:=Lib.hid hcg
    clear hcg
    have hle:=uV c.cells st k
    have e0:=hL.cell (i:=(mE c.cells st k).length) (j:=0) tO tO
    simp only [Nat.add_zero,Nat.mul_one] at e0
    have f1:=hL.frozen
    have hn0:(0:Int)≤((mE c.cells st k).length:Int):=by omega
    have hn1:((mE c.cells st k).length:Int)<40:=by omega
    go_wp2
    ·go_roundw
     case rel=>exact ⟨k+1,by omega,by go_num,by rw [uU hlt HC.out ‹_›];simp,by rw [uU hlt HC.out ‹_›];exact ((hL.set1 tO (.int .i64 k)).congr (fun i j _ _=>Im _ _ i j)).alloc _,by exact zB⟩
     case measure=>simp [intOf];omega
    ·go_roundw
     case rel=>exact ⟨k+1,by omega,by go_num,by rw [zx hlt HC.out ‹_›],by rw [zx hlt HC.out ‹_›];exact hL.alloc _,by exact zB⟩
     case measure=>simp [intOf];omega
   ·have:k=c.cells.length:=by omega
    subst this
    have hle:=uV c.cells st c.cells.length
    go_wp2_with (go_at_call 108;refine (J2 (mE c.cells st c.cells.length).length tO _ _).mono ?_;rintro _ _ ⟨rfl,rfl⟩)
    go_ret
    exact ⟨⟨_,rfl,HV.out ▸ .inr ⟨_,_,rfl,by omega,hL.take tO⟩⟩,hB⟩
 ·have HV:Hid ([]=iR c st):=by simp [iR,hc,Hid]
  go_enter Tryz.func57,Tryz.ntmps57
  go_wp2_with fail
  refine (fZ c a b p q _ (((H1.out).below zB).more (by simp)) (((H2.out).below zB).more (by simp)) M1.out M2.out).mono ?_
  rintro _ w1 ⟨rfl,hb1⟩
  have hB1:Below w.heap.size w w1:=bT zB hb1
  go_wp2
  go_ret
  exact ⟨⟨_,rfl,HV.out ▸ .inl ⟨rfl,rfl⟩⟩,hB1⟩
def kf (cells:List C3) (l:List Int) (k i j:Nat):Value:=if i<k then .int .i64 (elemOf cells (l.getD i 0)) else gX l i j
theorem Sk (cells:List C3) (l:List Int):kf cells l 0=gX l:=by funext i j;simp [kf]
theorem Ns {cells:List C3} {l:List Int} {k:Nat} {x:Int} (h:elemOf cells (l.getD k 0)=x) (i j:Nat):(if i=k then Value.int .i64 x else kf cells l k i j)=kf cells l (k+1) i j:=by
 unfold kf
 by_cases e:i=k
 ·subst e;rw [if_pos rfl,if_pos tO,h]
 ·rw [if_neg e]
  by_cases e2:i<k
  ·rw [if_pos e2,if_pos tO]
  ·rw [if_neg e2,if_neg tO]
theorem O3 {c:Ch} (h:aK c=true):∀ i j,i<(vz c 2).length→j<1→kf c.cells (vz c 2) (vz c 2).length i j=gX (keptIn c) i j:=fun i j hi _=>by
 have e:keptIn c=(vz c 2).map (elemOf c.cells):=by unfold keptIn;rw [if_pos h];rfl
 rw [e]
 simp [kf,gX,hi,List.getD]
theorem KO {c:Ch} (h:aK c=true):(keptIn c).length=(vz c 2).length:=by unfold keptIn;rw [if_pos h];simp
theorem uW (c:Ch) (a b:Option Addr) (p q:Nat) (w:World) (h1:eY w w.heap.size a c.cells) (h2:eQ w w.heap.size b c.words) (m1:c.cells.length≤maxLen) (m2:c.words.length≤maxLen) :
  Calls Tryz.prog 17 #[.agg #[.int .i64 c.cap,.int .i64 c.sent,.int .i64 c.got,.int .i64 c.fin,.slice a c.cells.length p,.slice b c.words.length q]] w fun r w'=>(∃ v,r=.returned v∧IM w' w.heap.size v (keptIn c))∧Below w.heap.size w w':=by
 have H1:=Lib.hid h1
 have H2:=Lib.hid h2
 have M1:=Lib.hid m1
 have M2:=Lib.hid m2
 clear h1 h2 m1 m2
 go_enter Tryz.func17,Tryz.ntmps17
 go_wp2_with fail
 refine (wE c 2 a b p q _ (((H1.out).below zB).more (by simp)) (((H2.out).below zB).more (by simp)) M1.out M2.out).mono ?_
 rintro _ w1 ⟨⟨v1,rfl,hN⟩,hb1⟩
 have hB1:Below w.heap.size w w1:=bT zB hb1
 have hs1:=hb1.size
 simp at hs1 hN
 have hx4:w1.cell? ⟨w.heap.size,4,none⟩=some (.slice a c.cells.length p):=(hb1.cell (p:=⟨w.heap.size,4,none⟩) (by simp)).trans (by simp)
 by_cases hc:aK c=true
 ·have e1:iR c 2=vz c 2:=by simp [iR,hc]
  rw [e1] at hN
  have HE:=Lib.hid (O3 hc)
  have HK:=Lib.hid (KO hc)
  have HL:Hid (∀ x ∈ vz c 2,∃ k:Nat,x=(k:Int)∧k<c.cells.length):=fun x hx=>by
   obtain ⟨k,h1,_,h3⟩:=qh 2 c.cells 0 x hx
   exact ⟨k,h1,by omega⟩
  have TJ:c.cells.length≤40:=by
   have:=nD c ▸ hc
   simp [lI] at this
   omega
  have hll:(vz c 2).length≤c.cells.length:=by have:=lS 2 c.cells 0;unfold vz;omega
  clear hb1 e1 hc
  generalize vz c 2=l at *
  rcases hN with ⟨rfl,hn0⟩|⟨g,cap,rfl,hlo,hL⟩
  ·go_wp2_with fail
   go_loopw [10] (fun i wr=>i=.int .i64 0∧wr=w1) (fun i _=>0 - (intOf i).toNat)
   case atStart=>exact ⟨rfl,rfl⟩
   case round =>
    obtain ⟨rfl,rfl⟩:=hrel
    go_wp2
    go_ret
    exact ⟨⟨_,rfl,.inl ⟨rfl,by rw [HK.out,hn0]⟩⟩,hB1⟩
  ·go_wp2_with fail
   go_loopw [10] (fun i wr=>∃ k:Nat,k≤l.length∧i=.int .i64 k∧Lie wr g l.length 1 (kf c.cells l k)∧wr.cell? ⟨w.heap.size,4,none⟩=some (.slice a c.cells.length p)∧Below w.heap.size w wr) (fun i _=>l.length - (intOf i).toNat)
   case atStart=>exact ⟨0,Nat.zero_le _,rfl,by rw [Sk];exact hL,hx4,hB1⟩
   case round =>
    clear hL hx4 hB1
    obtain ⟨k,hk,rfl,hL,x4,hB⟩:=hrel
    have hs:=hB.size
    have hl:=hL.lt
    by_cases hlt:k<l.length
    ·obtain ⟨i,hxi,hi⟩:=HL.out (l.getD k 0) (by rw [List.getD,List.getElem?_eq_getElem hlt];exact List.getElem_mem hlt)
     obtain h0|⟨bb,bo,rfl,hb,hcc⟩:=H1.out
     ·omega
     have c1:=(hB.cell (p:=⟨bb,bo+i*3+1,none⟩) hb).trans (hcc i 1 hi tO)
     simp only [ib,C3.val] at c1
     clear hcc
     have he:elemOf c.cells (l.getD k 0)=(c.cells.getD i ⟨0,0,0⟩).e:=by rw [hxi];simp [elemOf]
     have Qa:=Lib.hid he
     generalize (c.cells.getD i ⟨0,0,0⟩).e=ev at c1 Qa
     clear he
     have cl:=hL.cell (i:=k) (j:=0) hlt tO
     simp only [Nat.add_zero,Nat.mul_one,kf,Nat.lt_irrefl,if_false,gX,hxi] at cl
     have f1:=hL.frozen
     have HX:=Lib.hid hxi
     clear hxi
     have hk0:(0:Int)≤(k:Int):=by omega
     have hk1:(k:Int)<(l.length:Int):=by omega
     have Si:(0:Int)≤(i:Int):=by omega
     have hin1:(i:Int)<(c.cells.length:Int):=by omega
     have hne:w.heap.size≠g:=by omega
     have hbg:bb≠g:=by omega
     go_wp2
     go_roundw
     case rel=>exact ⟨k+1,by omega,by go_num,(hL.set1 hlt (.int .i64 ev)).congr (fun i j _ _=>Ns Qa.out i j),(World.cell?_setCell_other _ _ _ _ (fun e=>by simp at e)).trans x4,by exact zB⟩
     case measure=>simp [intOf];omega
    ·have:k=l.length:=by omega
     subst this
     go_wp2
     go_ret
     exact ⟨⟨.slice (some ⟨g,0,none⟩) l.length cap,rfl,.inr ⟨g,cap,by rw [HK.out],by omega,by rw [HK.out];exact hL.congr HE.out⟩⟩,hB⟩
 ·have e1:iR c 2=[]:=by simp [iR,hc]
  have e2:keptIn c=[]:=by simp [keptIn,hc]
  rw [e1] at hN
  have HV:Hid (keptIn c=[]):=e2
  clear hb1 e1 e2 hc
  obtain ⟨va,vc,rfl,_⟩:=hN.seg
  go_wp2_with fail
  go_loopw [10] (fun i wr=>i=.int .i64 0∧wr=w1) (fun i _=>0 - (intOf i).toNat)
  case atStart=>exact ⟨rfl,rfl⟩
  case round =>
   obtain ⟨rfl,rfl⟩:=hrel
   go_wp2
   go_ret
   exact ⟨⟨_,rfl,HV.out ▸ hN.more tO⟩,hB1⟩
theorem Nt:(Tryz.prog.info? 129).map (fun i=>(i.zero,i.size,i.bytes))=some (some (.agg (Array.replicate 120 (.int .i64 0))),120,960):=by kernel_rfl
theorem Nu (w:World):(zeroValue 129).run Tryz.prog w=.ok (.agg (Array.replicate 120 (.int .i64 0))) w:=by
 obtain ⟨i,hi,hz,_⟩:=info_parts Nt
 have e:Tryz.prog.info? 129=some Tryz.t129:=by kernel_rfl
 obtain rfl:Tryz.t129=i:=by rw [e] at hi;exact Option.some.inj hi
 simp [zeroValue,go_sem,hz]
theorem EA (n i j:Nat):ib (List.replicate n C3.zero) i j=.int .i64 0:=by
 have e:(List.replicate n C3.zero).getD i ⟨0,0,0⟩=⟨0,0,0⟩:=by
  unfold List.getD;rw [List.getElem?_replicate];split <;> rfl
 unfold ib
 rw [e]
 match j with
 | 0=>rfl
 | 1=>rfl
 | n+2=>rfl
theorem Io (w:World) (g:Nat) (h:g=w.heap.size):Lie (w.alloc (.cells (Array.replicate 120 (.int .i64 0)) 129)) g 40 3 (ib (List.replicate 40 C3.zero)):=by
 subst h
 refine ⟨_,_,heap_alloc_new w _,by simp,fun i j hi hj=>?_⟩
 rw [EA,Array.getElem?_replicate,if_pos tO]
theorem Cc (cap:Int) (w:World):Calls Tryz.prog 46 #[.int .i64 cap] w fun r w' =>
  (∃ v1 v2,r=.returned (.agg #[.int .i64 (fE cap).cap,.int .i64 (fE cap).sent,.int .i64 (fE cap).got,.int .i64 (fE cap).fin,v1,v2])∧NR w' w.heap.size v1 (fE cap).cells∧IM w' w.heap.size v2 (fE cap).words∧v2.ownBlock=none)∧Below w.heap.size w w':=by
 by_cases h:dm cap 0 4=true
 ·have e:fE cap=⟨cap,0,0,cap,List.replicate 40 C3.zero,[]⟩:=by simp [fE,h]
  rw [e]
  have hz:=Nu
  have HZ:Hid (∀ (W:World) (g lo n:Nat),g=W.heap.size→lo≤W.heap.size→n=40→NR (W.alloc (.cells (Array.replicate 120 (.int .i64 0)) 129)) lo (.slice (some ⟨g,0,none⟩) n n) (List.replicate 40 C3.zero)):=fun W g lo n hg h hn=>by
   subst hn
   exact .inr ⟨g,40,by simp,by omega,by simpa using Io W g hg⟩
  generalize Array.replicate 120 (Value.int .i64 0)=mz at hz HZ
  go_enter Tryz.func46,Tryz.ntmps46
  go_wp2_with (first|(go_at_call 45;refine (dX _ _ _).mono ?_;rintro _ _ ⟨rfl,rfl⟩)|(go_at_call 96;refine (J3 40 tO _ _).mono ?_;rintro _ _ ⟨rfl,rfl⟩))
  refine bodyPost_ret (v:=.agg #[.int .i64 cap,.int .i64 0,.int .i64 0,.int .i64 cap,.slice (some ⟨w.heap.size+1,0,none⟩) 40 40,.slice none 0 0]) (by simp [results,Tryz.results46,go_sem, *]) rfl ⟨⟨_,_,rfl,HZ.out _ _ _ _ (by simp) (by simp) rfl,.inl ⟨rfl,rfl⟩,rfl⟩,?_⟩
  exact zB
 ·have e:fE cap=Ch.zero:=by simp [fE,h]
  rw [e]
  go_enter Tryz.func46,Tryz.ntmps46
  go_wp2_with (go_at_call 45;refine (dX _ _ _).mono ?_;rintro _ _ ⟨rfl,rfl⟩)
  refine bodyPost_ret (v:=.agg #[.int .i64 0,.int .i64 0,.int .i64 0,.int .i64 0,.slice none 0 0,.slice none 0 0]) (by simp [results,Tryz.results46,go_sem, *]) rfl ⟨⟨_,_,rfl,.inl ⟨rfl,rfl⟩,.inl ⟨rfl,rfl⟩,rfl⟩,?_⟩
  exact zB
end
end Go.Proofs.YtffhjmepfojhnaaGreat
