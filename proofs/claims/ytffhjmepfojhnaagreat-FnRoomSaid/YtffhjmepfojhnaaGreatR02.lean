/-
  The reference model's functions of chapter 5, on hands that are kept whole; no condition.
-/
import Derived.Test.YtffhjmepfojhnaaGreatR01
set_option maxRecDepth 100000
set_option maxHeartbeats 4000000
set_option linter.unusedSimpArgs false
set_option linter.unusedVariables false
namespace Go.Proofs.YtffhjmepfojhnaaGreat
section
open Go.RowKit
attribute [local go_sem ↓] aB aL aM aG au
theorem j5 (h:Ha) (w:World):Calls Tryz.prog 119 #[.agg (aa h)] w fun r w'=>r=.returned (.bool (bW h))∧Below w.heap.size w w':=by
 go_enter Tryz.func119,Tryz.ntmps119
 go_wp2_with (first|(go_at_call 121;refine (fQ _ _ _ _).mono ?_;rintro _ _ ⟨rfl,rfl⟩)|(go_at_call 171;refine (rM _ _).mono ?_;rintro _ _ ⟨rfl,rfl⟩)|(go_at_call 122;refine (lG _ _).mono ?_;rintro _ _ ⟨rfl,rfl⟩)|(go_at_call 161;refine (nX _ _).mono ?_;rintro _ _ ⟨rfl,rfl⟩)|(go_at_call 170;refine ax w zB fun bb=>?_;refine (rO _ _ _).mono ?_;rintro _ w1 ⟨rfl,ah⟩;obtain ⟨aW,ay,zz⟩:=Px bb ah (b:=w.heap.size);(try simp at ay);(try simp [go_sem] at zz);replace bX:=OX zz;clear zz ah bb)|(go_at_call 169;refine ax w zB fun bb=>?_;refine (CL _ _ _).mono ?_;rintro _ w1 ⟨rfl,ah⟩;obtain ⟨aW,ay,zz⟩:=Px bb ah (b:=w.heap.size);(try simp at ay);(first|simp [go_sem,bX] at zz|simp [go_sem] at zz|skip);replace bX:=OX zz;clear zz ah bb))
 all_goals go_ret
 all_goals exact ⟨bF (by simp_all [bW,qo,wR,Fe]),by exact zB⟩
theorem fO (x o:Int) (w:World):Calls Tryz.prog 130 #[.int .i64 x,.int .i64 o] w fun r w'=>r=.returned (.agg (aa (aP x o)))∧Below w.heap.size w w':=by
 go_enter Tryz.func130,Tryz.ntmps130
 go_wp2
 refine bodyPost_ret (ic Tryz.results130 rfl (aj (aP x o) (by simp [go_sem] <;> rfl))) rfl ⟨rfl,by exact zB⟩
theorem Ae (k e b:Int) (w:World):Calls Tryz.prog 194 #[.agg #[.int .i64 k,.int .i64 e],.int .i64 b] w fun r w'=>r=.returned (.agg (aa (begun k e b)))∧Below w.heap.size w w':=by
 by_cases h:k=2
 ·subst h
  go_enter Tryz.func194,Tryz.ntmps194
  go_wp2
  refine bodyPost_ret (ic Tryz.results194 rfl (aj (begun 2 e b) (by simp [go_sem] <;> rfl))) rfl ⟨rfl,by exact zB⟩
 ·have e1:begun k e b=⟨1,k,e,0,0,0,0,0,0,0,0,b,0,0⟩:=by simp [begun,h]
  rw [e1]
  have h2:(k == 2)=false:=by simpa using h
  clear h
  go_enter Tryz.func194,Tryz.ntmps194
  go_wp2
  refine bodyPost_ret (ic Tryz.results194 rfl (aj ⟨1,k,e,0,0,0,0,0,0,0,0,b,0,0⟩ (by simp [go_sem] <;> rfl))) rfl ⟨rfl,by exact zB⟩
theorem jW (h:Ha) (w:World):Calls Tryz.prog 207 #[.agg (aa h)] w fun r w'=>r=.returned (.agg (aa (begun h.code h.elem h.beg)))∧Below w.heap.size w w':=by
 go_enter Tryz.func207,Tryz.ntmps207
 go_wp2_with fail;refine ax w zB fun bb=>?_;refine (Ae h.code h.elem h.beg _).mono ?_;rintro _ w1 ⟨rfl,ah⟩;obtain ⟨aW,ay,zz⟩:=CK bb ah (b:=w.heap.size);(try simp at ay);(try simp [go_sem] at zz);replace bX:=zS zz;clear zz ah bb
 go_wp2
 refine bodyPost_ret (ic Tryz.results207 rfl (aj (begun h.code h.elem h.beg) tZ)) rfl ⟨rfl,by exact zB⟩
end
section
open Go.RowKit
theorem tH (n:Int) (w:World):Calls Tryz.prog 81 #[.int .i64 n] w fun r w'=>r=.returned (.bool (dm n 0 20000))∧w=w':=by
  go_enter Tryz.func81,Tryz.ntmps81
  go_wp2_with (go_at_call 121;refine (fQ _ _ _ _).mono ?_;rintro _ _ ⟨rfl,rfl⟩)
  go_ret
  exact ⟨rfl,rfl⟩
theorem Af (c:Ch) (n:Nat) (now who:Int) (v1 v2 v3:Option Addr) (a1 a2 a3:Nat) (v4:Option Addr) (a4 n4 n1 n2:Nat) (hm:n≤1099511627776) (w:World) :
    Calls Tryz.prog 70 #[.agg #[.int .i64 c.cap,.int .i64 c.sent,.int .i64 c.got,.int .i64 c.fin,.slice v1 n1 a1,.slice v2 n2 a2,.slice v3 n a3,.slice v4 n4 a4,.int .i64 now],.int .i64 who] w fun r w'=>r=.returned (.bool (kG n who))∧Below w.heap.size w w':=by
  go_enter Tryz.func70,Tryz.ntmps70
  go_wp2_with (go_at_call 121;refine (fQ _ _ _ _).mono ?_;rintro _ _ ⟨rfl,rfl⟩)
  go_ret
  exact ⟨bF rfl,by exact zB⟩
theorem Ag {x:Wo} {k:Nat} {h:Ha} (hk:k<x.hands.length) (hc:x.hands.getD k Ha.zero=h) (e:eH x.now h=false):false=bJ x:=by
  have:x.hands.all (eH x.now)=false:=by
    rw [List.all_eq_false]
    refine ⟨x.hands[k],List.getElem_mem hk,?_⟩
    rw [← hc] at e
    simpa [List.getD,List.getElem?_eq_getElem hk] using e
  simp [bJ,this]
theorem Js {x:Wo} {k:Nat} {d:De} (hk:k<x.deals.length) (hc:x.deals.getD k De.zero=d) (e:iX x.hands.length x.now d=false):false=bJ x:=by
  have:x.deals.all (iX x.hands.length x.now)=false:=by
    rw [List.all_eq_false]
    refine ⟨x.deals[k],List.getElem_mem hk,?_⟩
    rw [← hc] at e
    simpa [List.getD,List.getElem?_eq_getElem hk] using e
  simp [bJ,this]
theorem fK {α:Type} (l:List α) (k:Nat) (z:α) (hk:k<l.length):l.take (k+1)=l.take k ++ [l.getD k z]:=by
  rw [List.take_succ_eq_append_getElem hk];simp [List.getD,List.getElem?_eq_getElem hk]
theorem CP {x:Wo} {k:Nat} {h:Ha} (hk:k<x.hands.length) (hc:x.hands.getD k Ha.zero=h) (e:(x.hands.take k).all (eH x.now)=true) (e1:eH x.now h=true):(x.hands.take (k+1)).all (eH x.now)=true:=by
  rw [fK _ k Ha.zero hk,hc,List.all_append,e];simp [e1]
theorem CQ {x:Wo} {k:Nat} {d:De} (hk:k<x.deals.length) (hc:x.deals.getD k De.zero=d) (e:(x.deals.take k).all (iX x.hands.length x.now)=true) (e1:iX x.hands.length x.now d=true):(x.deals.take (k+1)).all (iX x.hands.length x.now)=true:=by
  rw [fK _ k De.zero hk,hc,List.all_append,e];simp [e1]
theorem Gf {x:Wo} (h:fV x=true) (h1:(x.hands.take x.hands.length).all (eH x.now)=true) (h2:(x.deals.take x.deals.length).all (iX x.hands.length x.now)=true):true=bJ x:=by
  rw [List.take_length] at h1 h2
  simp only [bJ,h,h1,h2];rfl
theorem xg {x:Wo} (h:fV x=true):aK x.ch=true∧1≤x.hands.length∧x.hands.length≤6∧x.deals.length≤1000∧dm x.now 0 20000=true:=by
  simpa [fV] using h
theorem Ah (x:Wo) (a b d e:Option Addr) (p q r s:Nat) (w:World) (h1:eY w w.heap.size a x.ch.cells) (h2:eQ w w.heap.size b x.ch.words) (m3:x.hands.length≤1099511627776) (m4:x.deals.length≤1099511627776) (h:fV x=false) :
    Calls Tryz.prog 69 #[xc x a b d e p q r s] w fun r w'=>r=.returned (.bool (bJ x))∧Below w.heap.size w w':=by
  have e0:bJ x=false:=by simp [bJ,h]
  rw [e0]
  have H1:=Lib.hid h1
  have H2:=Lib.hid h2
  have H:=Lib.hid h
  clear h1 h2 h e0
  go_enter Tryz.func69,Tryz.ntmps69
  go_wp2_with (first|(go_at_call 112;refine ax w zB fun bb=>?_;refine (kI x.ch a b p q _ (aT H1 bb) (aT H2 bb)).mono ?_;rintro _ w1 ⟨rfl,ah⟩;have aW:=bT bb ah;have ay:=ah.size;(try simp at ay);have zz:=Fg ah (b:=w.heap.size);(try simp [go_sem] at zz);replace bX:=zz;clear zz ah bb)|(go_at_call 81;refine (tH _ _).mono ?_;rintro _ _ ⟨rfl,rfl⟩))
  all_goals first|(go_ret;exact ⟨rfl,by exact zB⟩)|skip
  exfalso
  have h:=H.out
  simp [fV, *] at h
  have h2:=h tO tO tO
  simp_all
attribute [local go_sem ↓] aB aL aM aG au
theorem xV (c:Ch) (hs:List Ha) (ds:List De) (now:Int) (a b d e:Option Addr) (p q r s:Nat) (w:World) (h1:eY w w.heap.size a c.cells) (h2:eQ w w.heap.size b c.words) (h3:Jn w w.heap.size d hs) (h4:Jo w w.heap.size e ds) (h:fV ⟨c,hs,ds,now⟩=true) :
    Calls Tryz.prog 69 #[.agg #[.int .i64 c.cap,.int .i64 c.sent,.int .i64 c.got,.int .i64 c.fin,.slice a c.cells.length p,.slice b c.words.length q,.slice d hs.length r,.slice e ds.length s,.int .i64 now]] w fun r w'=>r=.returned (.bool (bJ ⟨c,hs,ds,now⟩))∧Below w.heap.size w w':=by
  obtain ⟨i1,i2,i3,i4,i5⟩:=xg h
  simp only at i1 i2 i3 i4 i5
  have g1:decide ((hs.length:Int)<1)=false:=by simp;omega
  have g2:decide (6<(hs.length:Int))=false:=by simp;omega
  have g3:decide (1000<(ds.length:Int))=false:=by simp;omega
  have H1:=Lib.hid h1
  have H2:=Lib.hid h2
  have H4:=Lib.hid h4
  have HH:=Lib.hid h
  have I2:=Lib.hid i2
  obtain ⟨b3,o3,rfl,hb3,hc3⟩:∃ b o,d=some ⟨b,o,none⟩∧b<w.heap.size∧Hid (∀ i j,i<hs.length→j<14→w.cell? ⟨b,o+i*14+j,none⟩=some (fI hs i j)):=by
    rcases h3 with h0|h0
    · exact absurd h0 tO
    · exact h0
  clear h1 h2 h3 h4 h i2
  go_enter Tryz.func69,Tryz.ntmps69
  go_wp2_with (first|((go_at_call 112;refine ax w zB fun bb=>?_;refine (kI c a b p q _ (aT H1 bb) (aT H2 bb)).mono ?_;rintro _ w1 ⟨rfl,ah⟩;have aW:Below w.heap.size w w1:=bT bb ah;have ay:=ah.size;(try simp at ay);have zz:=And.intro (fun o=>ah.cell (p:=⟨w.heap.size,o,none⟩) tS) <| fun o=>ah.frozen (p:=⟨w.heap.size,o,none⟩) tS;(try simp [go_sem] at zz);(try clear dV eD);obtain ⟨dV,eD⟩:=zz;(try clear dJ);have dJ:w.heap.size<w1.heap.size:=tO;clear ah bb);rw [i1])|((go_at_call 81;refine (tH _ _).mono ?_;rintro _ _ ⟨rfl,rfl⟩);rw [i5]))
  go_loopw [3] (fun i wr=>∃ k:Nat,k≤hs.length∧i=.int .i64 k∧Hid ((hs.take k).all (eH now)=true)∧(∀ o,wr.cell? ⟨w.heap.size,o,none⟩=#[Value.int .i64 c.cap,.int .i64 c.sent,.int .i64 c.got,.int .i64 c.fin,.slice a c.cells.length p,.slice b c.words.length q,.slice (some ⟨b3,o3,none⟩) hs.length r,.slice e ds.length s,.int .i64 now][o]?)∧w.heap.size<wr.heap.size∧Below w.heap.size w wr) (fun i _=>hs.length - (intOf i).toNat)
  case atStart=>exact ⟨0,Nat.zero_le _,rfl,rfl,fun o=>by simp [dV],by omega,by exact zB⟩
  case round =>
    clear dV eD dJ aW ay
    obtain ⟨k,hk,rfl,hall,hbx,hlt1,hB⟩:=hrel
    by_cases hlt:k<hs.length
    · have cc:=fun j hj=>hc3.out k j hlt hj
      have Q7:=(hB.cell (p:=⟨b3,o3+k*14+11,none⟩) hb3).trans (cc 11 tO)
      simp only [fI] at cc Q7
      generalize hcg:hs.getD k Ha.zero=hx at cc Q7
      have HC:=Lib.hid hcg
      clear hcg
      have Ld:∀ W:World,hp W b3=hp w b3→(nP (.pointer (some ⟨b3,o3+k*14,none⟩))).run Tryz.prog W=.ok (.agg (aa hx)) W:=fun W e=>nu hx fun j hj=>by rw [← cc j hj];exact World.cell?_of_block e
      clear cc
      have c11:wr.cell? ⟨b3,o3+k*14+11,none⟩=some (.int .i64 hx.beg):=Q7
      clear Q7
      have z3:hp wr b3=hp w b3:=hB.block b3 hb3
      have x6:=hbx 6
      have x8:=hbx 8
      simp at x6 x8
      have hk0:(0:Int)≤(k:Int):=by omega
      have hk1:(k:Int)<(hs.length:Int):=by omega
      by_cases hok:bW hx=true
      · go_wp2_with fail
        go_region_held3 (fun w'=>w'.cell? ⟨w.heap.size,6,none⟩=some (.slice (some ⟨b3,o3,none⟩) hs.length r)∧w'.cell? ⟨w.heap.size,8,none⟩=some (.int .i64 now)∧hp w' b3=hp w b3∧w'.cell? ⟨b3,o3+k*14+11,none⟩=some (.int .i64 hx.beg))
          (first|(simp [*,go_sem]))
          (first|(go_at_call 119;refine (j5 hx _).mono ?_;rintro _ w7 ⟨rfl,rP⟩;have Jr:Below w.heap.size w w7:=bT zB rP;have:=rP.cell (p:=⟨w.heap.size,6,none⟩) (by simp;omega);have:=rP.cell (p:=⟨w.heap.size,8,none⟩) (by simp;omega);have:=rP.cell (p:=⟨b3,o3+k*14+11,none⟩) (by simp;omega);have z7:hp w7 b3=hp w b3:=Jr.block b3 hb3;have hx7:=fun o=>(rP.cell (p:=⟨w.heap.size,o,none⟩) (by simp;omega)).trans (hbx o);have hs7:=rP.size;simp at hs7;rw [hok]))
        by_cases hct:now<hx.beg
        · go_wp2
          go_ret
          exact ⟨bF (Ag (x:=⟨c,hs,ds,now⟩) hlt HC.out (by simp [eH,hok];omega)),Jr⟩
        · go_wp2
          go_roundw
          case rel=>exact ⟨k+1,by omega,by go_num,CP (x:=⟨c,hs,ds,now⟩) hlt HC.out hall.out (by simp [eH,hok];omega),hx7,by omega,Jr⟩
          case measure=>simp [intOf];omega
      · have hok2:bW hx=false:=by simpa using hok
        clear hok
        go_wp2_with fail
        refine wp_region_held_drew (S:=fun w'=>w'.cell? ⟨w.heap.size,6,none⟩=some (.slice (some ⟨b3,o3,none⟩) hs.length r)∧w'.cell? ⟨w.heap.size,8,none⟩=some (.int .i64 now)∧hp w' b3=hp w b3∧w'.cell? ⟨b3,o3+k*14+11,none⟩=some (.int .i64 hx.beg)) (by kernel_rfl) (by simp [*,go_sem]) (fun hS0=>?_)
        refine mT (i:=0) (oi:=⟨some 41,_,_,_,_,_⟩) rfl ?_;(try simp only [Act.put,List.setIfInBounds_toArray,List.set_cons_zero,List.set_cons_succ])
        refine mT (i:=1) (oi:=⟨some 42,_,_,_,_,_⟩) rfl ?_;(try simp only [Act.put,List.setIfInBounds_toArray,List.set_cons_zero,List.set_cons_succ])
        refine mT (i:=2) (oi:=⟨some 43,_,_,_,_,_⟩) rfl ?_;(try simp only [Act.put,List.setIfInBounds_toArray,List.set_cons_zero,List.set_cons_succ])
        refine mT (i:=3) (oi:=⟨some 44,_,_,_,_,_⟩) rfl ?_;(try simp only [Act.put,List.setIfInBounds_toArray,List.set_cons_zero,List.set_cons_succ])
        refine mT (i:=4) (oi:=⟨some 45,_,_,_,_,_⟩) rfl ?_;(try simp only [Act.put,List.setIfInBounds_toArray,List.set_cons_zero,List.set_cons_succ])
        refine wpAnyH_ready (rs:=[5]) (by kernel_rfl) (by simp) ?_
        refine AllReadyH.cons (o:=⟨some 46,_,_,_,_,_⟩) rfl (fun K hK=>?_) AllReadyH.nil
        go_simp
        go_at_call 119
        refine (j5 hx _).mono ?_
        rintro _ w7 ⟨rfl,rP⟩
        have Jr:Below w.heap.size w w7:=bT zB rP
        rw [hok2]
        refine hK.out _ _ ?_ (fun Vv=>?_)
        · refine ⟨(rP.cell (by simp;omega)).trans x6,(rP.cell (by simp;omega)).trans x8,Jr.block b3 hb3,(rP.cell (by simp;omega)).trans c11⟩
        clear hK
        (try simp only [Act.put,List.setIfInBounds_toArray,List.set_cons_zero,List.set_cons_succ])
        refine mT (i:=6) (oi:=⟨some 47,_,_,_,_,_⟩) rfl ?_;(try simp only [Act.put,List.setIfInBounds_toArray,List.set_cons_zero,List.set_cons_succ])
        refine mT (i:=7) (oi:=⟨some 48,_,_,_,_,_⟩) rfl ?_;(try simp only [Act.put,List.setIfInBounds_toArray,List.set_cons_zero,List.set_cons_succ])
        refine mS (i:=8) (oi:=⟨some 49,_,_,_,_,_⟩) rfl ?_;(try simp only [Act.put,List.setIfInBounds_toArray,List.set_cons_zero,List.set_cons_succ])
        refine mS (i:=9) (oi:=⟨some 50,_,_,_,_,_⟩) rfl ?_;(try simp only [Act.put,List.setIfInBounds_toArray,List.set_cons_zero,List.set_cons_succ])
        refine mS (i:=10) (oi:=⟨some 51,_,_,_,_,_⟩) rfl ?_;(try simp only [Act.put,List.setIfInBounds_toArray,List.set_cons_zero,List.set_cons_succ])
        refine mS (i:=11) (oi:=⟨some 52,_,_,_,_,_⟩) rfl ?_;(try simp only [Act.put,List.setIfInBounds_toArray,List.set_cons_zero,List.set_cons_succ])
        refine mS (i:=12) (oi:=⟨some 53,_,_,_,_,_⟩) rfl ?_;(try simp only [Act.put,List.setIfInBounds_toArray,List.set_cons_zero,List.set_cons_succ])
        refine mS (i:=13) (oi:=⟨some 54,_,_,_,_,_⟩) rfl ?_;(try simp only [Act.put,List.setIfInBounds_toArray,List.set_cons_zero,List.set_cons_succ])
        refine mS (i:=14) (oi:=⟨some 55,_,_,_,_,_⟩) rfl ?_;(try simp only [Act.put,List.setIfInBounds_toArray,List.set_cons_zero,List.set_cons_succ])
        refine mS (i:=15) (oi:=⟨some 56,_,_,_,_,_⟩) rfl ?_;(try simp only [Act.put,List.setIfInBounds_toArray,List.set_cons_zero,List.set_cons_succ])
        refine mS (i:=16) (oi:=⟨some 57,_,_,_,_,_⟩) rfl ?_;(try simp only [Act.put,List.setIfInBounds_toArray,List.set_cons_zero,List.set_cons_succ])
        refine mT (i:=17) (oi:=⟨some 58,_,_,_,_,_⟩) rfl ?_;(try simp only [Act.put,List.setIfInBounds_toArray,List.set_cons_zero,List.set_cons_succ])
        refine wpAnyH_done (by kernel_rfl) ?_ _
        go_wp2
        go_ret
        exact ⟨bF (Ag (x:=⟨c,hs,ds,now⟩) hlt HC.out (by simp [eH,hok2])),Jr⟩
    · have:k=hs.length:=by omega
      subst this
      go_wp2
      go_loopw [4] (fun i wr=>∃ k:Nat,k≤ds.length∧i=.int .i64 k∧Hid ((ds.take k).all (iX hs.length now)=true)∧(∀ o,wr.cell? ⟨w.heap.size,o,none⟩=#[Value.int .i64 c.cap,.int .i64 c.sent,.int .i64 c.got,.int .i64 c.fin,.slice a c.cells.length p,.slice b c.words.length q,.slice (some ⟨b3,o3,none⟩) hs.length r,.slice e ds.length s,.int .i64 now][o]?)∧w.heap.size<wr.heap.size∧Below w.heap.size w wr) (fun i _=>ds.length - (intOf i).toNat)
      case atStart=>exact ⟨0,Nat.zero_le _,rfl,rfl,hbx,hlt1,hB⟩
      case round =>
        clear hbx hlt1 hB hk
        obtain ⟨k,hk,rfl,NC,hbx,hlt1,hB⟩:=hrel
        have x7:=hbx 7
        simp at x7
        by_cases hlt:k<ds.length
        · obtain h0|⟨b4,o4,rfl,hb4,hc4⟩:=H4.out
          · omega
          have cc:=fun j hj=>(hB.cell (p:=⟨b4,o4+k*7+j,none⟩) hb4).trans (hc4 k j hlt hj)
          have c0:=cc 0 tO
          have c1:=cc 1 tO
          have c2:=cc 2 tO
          have c3:=cc 3 tO
          have c4:=cc 4 tO
          have c5:=cc 5 tO
          have c6:=cc 6 tO
          clear cc hc4
          simp only [nW] at c0 c1 c2 c3 c4 c5 c6
          generalize hcg:ds.getD k De.zero=dd at c0 c1 c2 c3 c4 c5 c6
          simp [iY,Array.getD] at c0 c1 c2 c3 c4 c5 c6
          have HC:=Lib.hid hcg
          clear hcg
          have dV:=hbx
          have dJ:=hlt1
          have hl3:hs.length≤1099511627776:=by omega
          go_wp2_with (first|((go_at_call 70;refine ax w zB fun bb=>?_;refine (Af c hs.length now _ _ _ _ _ _ _ _ _ _ _ _ hl3 _).mono ?_;rintro _ w5 ⟨rfl,dD⟩;have oM:Below w.heap.size w w5:=bT bb dD;have iL:=dD.size;(try simp at iL);have zz:=And.intro (fun o=>dD.cell (p:=⟨wr.heap.size,o,none⟩) tS) <| And.intro (fun o=>dD.frozen (p:=⟨wr.heap.size,o,none⟩) tS) <| And.intro (fun o=>dD.cell (p:=⟨w.heap.size,o,none⟩) tS) <| fun o=>dD.frozen (p:=⟨w.heap.size,o,none⟩) tS;(first|simp [go_sem,dV,eD,dJ] at zz|simp [go_sem,dV,dJ] at zz|simp [go_sem] at zz|skip);(try clear Mh Mi);(try clear dV eD);obtain ⟨Mh,Mi,dV,eD⟩:=zz;(try clear Mj);have Mj:wr.heap.size<w5.heap.size:=tO;(try clear dJ);have dJ:w.heap.size<w5.heap.size:=tO;clear dD bb))|((go_at_call 120;refine ax w zB fun bb=>?_;refine (xU _ _ _ _).mono ?_;rintro _ w6 ⟨rfl,il⟩;have Rs:Below w.heap.size w w6:=bT bb il;have xW:=il.size;(try simp at xW);have zz:=And.intro (fun o=>il.cell (p:=⟨wr.heap.size,o,none⟩) tS) <| And.intro (fun o=>il.frozen (p:=⟨wr.heap.size,o,none⟩) tS) <| And.intro (fun o=>il.cell (p:=⟨w.heap.size,o,none⟩) tS) <| fun o=>il.frozen (p:=⟨w.heap.size,o,none⟩) tS;(first|simp [go_sem,Mh,Mi,dV,eD,dJ,Mj] at zz|simp [go_sem,dV,eD,dJ] at zz|simp [go_sem,dV,dJ] at zz|simp [go_sem] at zz|skip);(try clear Mh Mi);(try clear dV eD);obtain ⟨Mh,Mi,dV,eD⟩:=zz;(try clear Mj);have Mj:wr.heap.size<w6.heap.size:=tO;(try clear dJ);have dJ:w.heap.size<w6.heap.size:=tO;clear il bb))|(go_at_call 121;refine (fQ _ _ _ _).mono ?_;rintro _ _ ⟨rfl,rfl⟩)|(go_at_call 122;refine (lG _ _).mono ?_;rintro _ _ ⟨rfl,rfl⟩))
          all_goals first
            | (go_ret;exact ⟨bF (Js (x:=⟨c,hs,ds,now⟩) hlt HC.out (by first|(simp [iX, *];done)|(have h9:=not_true ‹(!dm dd.out 0 999)=true›;simp [iX, *];done))),by exact zB⟩)
            | (go_roundw
               case rel=>exact ⟨k+1,by omega,by go_num,CQ (x:=⟨c,hs,ds,now⟩) hlt HC.out NC.out (by have h9:=not_false ‹(!dm dd.out 0 999)=false›;simp [iX, *]),fun o=>by simp [dV],by omega,by exact zB⟩
               case measure=>simp [intOf];omega)
        · have:k=ds.length:=by omega
          subst this
          go_wp2
          go_ret
          exact ⟨bF (Gf HH.out hall.out NC.out),hB⟩
theorem qx (x:Wo) (a b d e:Option Addr) (p q r s:Nat) (w:World) (h1:eY w w.heap.size a x.ch.cells) (h2:eQ w w.heap.size b x.ch.words) (h3:Jn w w.heap.size d x.hands) (h4:Jo w w.heap.size e x.deals) (m3:x.hands.length≤1099511627776) (m4:x.deals.length≤1099511627776) :
    Calls Tryz.prog 69 #[xc x a b d e p q r s] w fun r w'=>r=.returned (.bool (bJ x))∧Below w.heap.size w w':=by
  cases h:fV x with
  | false=>exact Ah x a b d e p q r s w h1 h2 m3 m4 h
  | true=>exact xV x.ch x.hands x.deals x.now a b d e p q r s w h1 h2 h3 h4 h
end
end Go.Proofs.YtffhjmepfojhnaaGreat
