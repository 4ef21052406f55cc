/-
  The reference model's looks at a world; lists lie in memory and hold at most 2 ^ 40 elements.
-/
import Derived.Test.YtffhjmepfojhnaaGreatP14
import Derived.Test.YtffhjmepfojhnaaGreatP02
import Derived.Test.YtffhjmepfojhnaaGreatP06
import Derived.Test.YtffhjmepfojhnaaGreatP07
import Derived.Test.YtffhjmepfojhnaaGreatP05
import Derived.Test.YtffhjmepfojhnaaGreatP01
set_option maxRecDepth 100000
set_option maxHeartbeats 4000000
set_option linter.unusedSimpArgs false
set_option linter.unusedVariables false
namespace Go.Proofs.YtffhjmepfojhnaaGreat
section
open Go.RowKit
theorem sF (n:Int) (w:World):Calls Tryz.prog 81 #[.int .i64 n] w fun r w'=>r=.returned (.bool (dL n 0 20000))∧w=w':=by
  go_enter Tryz.func81,Tryz.ntmps81
  go_wp2_with (go_at_call 121;refine (fD _ _ _ _).mono ?_;rintro _ _ ⟨rfl,rfl⟩)
  go_ret
  exact ⟨rfl,rfl⟩
theorem zZ (c:Ch) (n:Nat) (now who:Int) (v1 v2 v3:Option Addr) (a1 a2 a3:Nat) (v4:Option Addr) (a4 n4 n1 n2:Nat) (hm:n≤1099511627776) (w:World) :
    Calls Tryz.prog 70 #[.agg #[.int .i64 c.cap,.int .i64 c.sent,.int .i64 c.got,.int .i64 c.fin,.slice v1 n1 a1,.slice v2 n2 a2,.slice v3 n a3,.slice v4 n4 a4,.int .i64 now],.int .i64 who] w fun r w'=>r=.returned (.bool (zX n who))∧Below w.heap.size w w':=by
  go_enter Tryz.func70,Tryz.ntmps70
  go_wp2_with (go_at_call 121;refine (fD _ _ _ _).mono ?_;rintro _ _ ⟨rfl,rfl⟩)
  go_ret
  exact ⟨aZ rfl,by exact zB⟩
theorem Aa {x:Wo} {k:Nat} {h:Ha} (hk:k<x.hands.length) (hc:x.hands.getD k Ha.zero=h) (e:eF x.now h=false):false=dU x:=by
  have:x.hands.all (eF x.now)=false:=by
    rw [List.all_eq_false]
    refine ⟨x.hands[k],List.getElem_mem hk,?_⟩
    rw [← hc] at e
    simpa [List.getD,List.getElem?_eq_getElem hk] using e
  simp [dU,this]
theorem Iz {x:Wo} {k:Nat} {d:De} (hk:k<x.deals.length) (hc:x.deals.getD k De.zero=d) (e:iK x.hands.length x.now d=false):false=dU x:=by
  have:x.deals.all (iK x.hands.length x.now)=false:=by
    rw [List.all_eq_false]
    refine ⟨x.deals[k],List.getElem_mem hk,?_⟩
    rw [← hc] at e
    simpa [List.getD,List.getElem?_eq_getElem hk] using e
  simp [dU,this]
theorem ji {α:Type} (l:List α) (k:Nat) (z:α) (hk:k<l.length):l.take (k+1)=l.take k ++ [l.getD k z]:=by
  rw [List.take_succ_eq_append_getElem hk];simp [List.getD,List.getElem?_eq_getElem hk]
theorem CK {x:Wo} {k:Nat} {h:Ha} (hk:k<x.hands.length) (hc:x.hands.getD k Ha.zero=h) (e:(x.hands.take k).all (eF x.now)=true) (e1:eF x.now h=true):(x.hands.take (k+1)).all (eF x.now)=true:=by
  rw [ji _ k Ha.zero hk,hc,List.all_append,e];simp [e1]
theorem CL {x:Wo} {k:Nat} {d:De} (hk:k<x.deals.length) (hc:x.deals.getD k De.zero=d) (e:(x.deals.take k).all (iK x.hands.length x.now)=true) (e1:iK x.hands.length x.now d=true):(x.deals.take (k+1)).all (iK x.hands.length x.now)=true:=by
  rw [ji _ k De.zero hk,hc,List.all_append,e];simp [e1]
theorem Fs {x:Wo} (h:gN x=true) (h1:(x.hands.take x.hands.length).all (eF x.now)=true) (h2:(x.deals.take x.deals.length).all (iK x.hands.length x.now)=true):true=dU x:=by
  rw [List.take_length] at h1 h2
  simp only [dU,h,h1,h2];rfl
theorem Fu {x:Wo} (h:gN x=true):aG x.ch=true∧1≤x.hands.length∧x.hands.length≤6∧x.deals.length≤1000∧dL x.now 0 20000=true:=by
  simpa [gN] using h
theorem Ab (x:Wo) (a b d e:Option Addr) (p q r s:Nat) (w:World) (h1:eY w w.heap.size a x.ch.cells) (h2:eZ w w.heap.size b x.ch.words) (m3:x.hands.length≤1099511627776) (m4:x.deals.length≤1099511627776) (h:gN x=false) :
    Calls Tryz.prog 69 #[zY x a b d e p q r s] w fun r w'=>r=.returned (.bool (dU x))∧Below w.heap.size w w':=by
  have e0:dU x=false:=by simp [dU,h]
  rw [e0]
  have H1:=Lib.hid h1
  have H2:=Lib.hid h2
  have H:=Lib.hid h
  clear h1 h2 h e0
  go_enter Tryz.func69,Tryz.ntmps69
  go_wp2_with (first|(go_at_call 112;refine au w zB fun bb=>?_;refine (jr x.ch a b p q _ (aT H1 bb) (aT H2 bb)).mono ?_;rintro _ w1 ⟨rfl,ag⟩;have aV:=bT bb ag;have ak:=ag.size;(try simp at ak);have zz:=DV ag (b:=w.heap.size);(try simp [go_sem] at zz);replace bX:=zz;clear zz ag bb)|(go_at_call 81;refine (sF _ _).mono ?_;rintro _ _ ⟨rfl,rfl⟩))
  all_goals first|(go_ret;exact ⟨rfl,by exact zB⟩)|skip
  exfalso
  have h:=H.out
  simp [gN, *] at h
  have h2:=h tO tO tO
  simp_all
attribute [local go_sem ↓] aH aM aN aA ax
theorem xA (c:Ch) (hs:List Ha) (ds:List De) (now:Int) (a b d e:Option Addr) (p q r s:Nat) (w:World) (h1:eY w w.heap.size a c.cells) (h2:eZ w w.heap.size b c.words) (h3:Gh w w.heap.size d hs) (h4:Jj w w.heap.size e ds) (h:gN ⟨c,hs,ds,now⟩=true) :
    Calls Tryz.prog 69 #[.agg #[.int .i64 c.cap,.int .i64 c.sent,.int .i64 c.got,.int .i64 c.fin,.slice a c.cells.length p,.slice b c.words.length q,.slice d hs.length r,.slice e ds.length s,.int .i64 now]] w fun r w'=>r=.returned (.bool (dU ⟨c,hs,ds,now⟩))∧Below w.heap.size w w':=by
  obtain ⟨i1,i2,i3,i4,i5⟩:=Fu h
  simp only at i1 i2 i3 i4 i5
  have g1:decide ((hs.length:Int)<1)=false:=by simp;omega
  have g2:decide (6<(hs.length:Int))=false:=by simp;omega
  have g3:decide (1000<(ds.length:Int))=false:=by simp;omega
  have H1:=Lib.hid h1
  have H2:=Lib.hid h2
  have H4:=Lib.hid h4
  have HH:=Lib.hid h
  have I2:=Lib.hid i2
  obtain ⟨b3,o3,rfl,hb3,hc3⟩:∃ b o,d=some ⟨b,o,none⟩∧b<w.heap.size∧Hid (∀ i j,i<hs.length→j<14→w.cell? ⟨b,o+i*14+j,none⟩=some (gB hs i j)):=by
    rcases h3 with h0|h0
    · exact absurd h0 tO
    · exact h0
  clear h1 h2 h3 h4 h i2
  go_enter Tryz.func69,Tryz.ntmps69
  go_wp2_with (first|((go_at_call 112;refine au w zB fun bb=>?_;refine (jr c a b p q _ (aT H1 bb) (aT H2 bb)).mono ?_;rintro _ w1 ⟨rfl,ag⟩;have aV:Below w.heap.size w w1:=bT bb ag;have ak:=ag.size;(try simp at ak);have zz:=And.intro (fun o=>ag.cell (p:=⟨w.heap.size,o,none⟩) tS) <| fun o=>ag.frozen (p:=⟨w.heap.size,o,none⟩) tS;(try simp [go_sem] at zz);(try clear di dC);obtain ⟨di,dC⟩:=zz;(try clear bV);have bV:w.heap.size<w1.heap.size:=tO;clear ag bb);rw [i1])|((go_at_call 81;refine (sF _ _).mono ?_;rintro _ _ ⟨rfl,rfl⟩);rw [i5]))
  go_loopw [3] (fun i wr=>∃ k:Nat,k≤hs.length∧i=.int .i64 k∧Hid ((hs.take k).all (eF now)=true)∧(∀ o,wr.cell? ⟨w.heap.size,o,none⟩=#[Value.int .i64 c.cap,.int .i64 c.sent,.int .i64 c.got,.int .i64 c.fin,.slice a c.cells.length p,.slice b c.words.length q,.slice (some ⟨b3,o3,none⟩) hs.length r,.slice e ds.length s,.int .i64 now][o]?)∧w.heap.size<wr.heap.size∧Below w.heap.size w wr) (fun i _=>hs.length - (intOf i).toNat)
  case atStart=>exact ⟨0,Nat.zero_le _,rfl,rfl,fun o=>by simp [di],by omega,by exact zB⟩
  case round =>
    clear di dC bV aV ak
    obtain ⟨k,hk,rfl,hall,hbx,hlt1,hB⟩:=hrel
    by_cases hlt:k<hs.length
    · have cc:=fun j hj=>hc3.out k j hlt hj
      have Oj:=(hB.cell (p:=⟨b3,o3+k*14+11,none⟩) hb3).trans (cc 11 tO)
      simp only [gB] at cc Oj
      generalize hcg:hs.getD k Ha.zero=hx at cc Oj
      have HC:=Lib.hid hcg
      clear hcg
      have Fv:∀ W:World,hp W b3=hp w b3→(oH (.pointer (some ⟨b3,o3+k*14,none⟩))).run Tryz.prog W=.ok (.agg (aa hx)) W:=fun W e=>lV hx fun j hj=>by rw [← cc j hj];exact World.cell?_of_block e
      clear cc
      have c11:wr.cell? ⟨b3,o3+k*14+11,none⟩=some (.int .i64 hx.beg):=Oj
      clear Oj
      have z3:hp wr b3=hp w b3:=hB.block b3 hb3
      have x6:=hbx 6
      have x8:=hbx 8
      simp at x6 x8
      have hk0:(0:Int)≤(k:Int):=by omega
      have hk1:(k:Int)<(hs.length:Int):=by omega
      by_cases hok:bF hx=true
      · go_wp2_with fail
        go_region_held3 (fun w'=>w'.cell? ⟨w.heap.size,6,none⟩=some (.slice (some ⟨b3,o3,none⟩) hs.length r)∧w'.cell? ⟨w.heap.size,8,none⟩=some (.int .i64 now)∧hp w' b3=hp w b3∧w'.cell? ⟨b3,o3+k*14+11,none⟩=some (.int .i64 hx.beg))
          (first|(simp [*,go_sem]))
          (first|(go_at_call 119;refine (iP hx _).mono ?_;rintro _ w7 ⟨rfl,qc⟩;have vZ:Below w.heap.size w w7:=bT zB qc;have:=qc.cell (p:=⟨w.heap.size,6,none⟩) (by simp;omega);have:=qc.cell (p:=⟨w.heap.size,8,none⟩) (by simp;omega);have:=qc.cell (p:=⟨b3,o3+k*14+11,none⟩) (by simp;omega);have z7:hp w7 b3=hp w b3:=vZ.block b3 hb3;have hx7:=fun o=>(qc.cell (p:=⟨w.heap.size,o,none⟩) (by simp;omega)).trans (hbx o);have hs7:=qc.size;simp at hs7;rw [hok]))
        by_cases hct:now<hx.beg
        · go_wp2
          go_ret
          exact ⟨aZ (Aa (x:=⟨c,hs,ds,now⟩) hlt HC.out (by simp [eF,hok];omega)),vZ⟩
        · go_wp2
          go_roundw
          case rel=>exact ⟨k+1,by omega,by go_num,CK (x:=⟨c,hs,ds,now⟩) hlt HC.out hall.out (by simp [eF,hok];omega),hx7,by omega,vZ⟩
          case measure=>simp [intOf];omega
      · have hok2:bF hx=false:=by simpa using hok
        clear hok
        go_wp2_with fail
        refine wp_region_held_drew (S:=fun w'=>w'.cell? ⟨w.heap.size,6,none⟩=some (.slice (some ⟨b3,o3,none⟩) hs.length r)∧w'.cell? ⟨w.heap.size,8,none⟩=some (.int .i64 now)∧hp w' b3=hp w b3∧w'.cell? ⟨b3,o3+k*14+11,none⟩=some (.int .i64 hx.beg)) (by kernel_rfl) (by simp [*,go_sem]) (fun hS0=>?_)
        refine mT (i:=0) (oi:=⟨some 41,_,_,_,_,_⟩) rfl ?_;(try simp only [Act.put,List.setIfInBounds_toArray,List.set_cons_zero,List.set_cons_succ])
        refine mT (i:=1) (oi:=⟨some 42,_,_,_,_,_⟩) rfl ?_;(try simp only [Act.put,List.setIfInBounds_toArray,List.set_cons_zero,List.set_cons_succ])
        refine mT (i:=2) (oi:=⟨some 43,_,_,_,_,_⟩) rfl ?_;(try simp only [Act.put,List.setIfInBounds_toArray,List.set_cons_zero,List.set_cons_succ])
        refine mT (i:=3) (oi:=⟨some 44,_,_,_,_,_⟩) rfl ?_;(try simp only [Act.put,List.setIfInBounds_toArray,List.set_cons_zero,List.set_cons_succ])
        refine mT (i:=4) (oi:=⟨some 45,_,_,_,_,_⟩) rfl ?_;(try simp only [Act.put,List.setIfInBounds_toArray,List.set_cons_zero,List.set_cons_succ])
        refine wpAnyH_ready (rs:=[5]) (by kernel_rfl) (by simp) ?_
        refine AllReadyH.cons (o:=⟨some 46,_,_,_,_,_⟩) rfl (fun K hK=>?_) AllReadyH.nil
        go_simp
        go_at_call 119
        refine (iP hx _).mono ?_
        rintro _ w7 ⟨rfl,qc⟩
        have vZ:Below w.heap.size w w7:=bT zB qc
        rw [hok2]
        refine hK.out _ _ ?_ (fun PR=>?_)
        · refine ⟨(qc.cell (by simp;omega)).trans x6,(qc.cell (by simp;omega)).trans x8,vZ.block b3 hb3,(qc.cell (by simp;omega)).trans c11⟩
        clear hK
        (try simp only [Act.put,List.setIfInBounds_toArray,List.set_cons_zero,List.set_cons_succ])
        refine mT (i:=6) (oi:=⟨some 47,_,_,_,_,_⟩) rfl ?_;(try simp only [Act.put,List.setIfInBounds_toArray,List.set_cons_zero,List.set_cons_succ])
        refine mT (i:=7) (oi:=⟨some 48,_,_,_,_,_⟩) rfl ?_;(try simp only [Act.put,List.setIfInBounds_toArray,List.set_cons_zero,List.set_cons_succ])
        refine mS (i:=8) (oi:=⟨some 49,_,_,_,_,_⟩) rfl ?_;(try simp only [Act.put,List.setIfInBounds_toArray,List.set_cons_zero,List.set_cons_succ])
        refine mS (i:=9) (oi:=⟨some 50,_,_,_,_,_⟩) rfl ?_;(try simp only [Act.put,List.setIfInBounds_toArray,List.set_cons_zero,List.set_cons_succ])
        refine mS (i:=10) (oi:=⟨some 51,_,_,_,_,_⟩) rfl ?_;(try simp only [Act.put,List.setIfInBounds_toArray,List.set_cons_zero,List.set_cons_succ])
        refine mS (i:=11) (oi:=⟨some 52,_,_,_,_,_⟩) rfl ?_;(try simp only [Act.put,List.setIfInBounds_toArray,List.set_cons_zero,List.set_cons_succ])
        refine mS (i:=12) (oi:=⟨some 53,_,_,_,_,_⟩) rfl ?_;(try simp only [Act.put,List.setIfInBounds_toArray,List.set_cons_zero,List.set_cons_succ])
        refine mS (i:=13) (oi:=⟨some 54,_,_,_,_,_⟩) rfl ?_;(try simp only [Act.put,List.setIfInBounds_toArray,List.set_cons_zero,List.set_cons_succ])
        refine mS (i:=14) (oi:=⟨some 55,_,_,_,_,_⟩) rfl ?_;(try simp only [Act.put,List.setIfInBounds_toArray,List.set_cons_zero,List.set_cons_succ])
        refine mS (i:=15) (oi:=⟨some 56,_,_,_,_,_⟩) rfl ?_;(try simp only [Act.put,List.setIfInBounds_toArray,List.set_cons_zero,List.set_cons_succ])
        refine mS (i:=16) (oi:=⟨some 57,_,_,_,_,_⟩) rfl ?_;(try simp only [Act.put,List.setIfInBounds_toArray,List.set_cons_zero,List.set_cons_succ])
        refine mT (i:=17) (oi:=⟨some 58,_,_,_,_,_⟩) rfl ?_;(try simp only [Act.put,List.setIfInBounds_toArray,List.set_cons_zero,List.set_cons_succ])
        refine wpAnyH_done (by kernel_rfl) ?_ _
        go_wp2
        go_ret
        exact ⟨aZ (Aa (x:=⟨c,hs,ds,now⟩) hlt HC.out (by simp [eF,hok2])),vZ⟩
    · have:k=hs.length:=by omega
      subst this
      go_wp2
      go_loopw [4] (fun i wr=>∃ k:Nat,k≤ds.length∧i=.int .i64 k∧Hid ((ds.take k).all (iK hs.length now)=true)∧(∀ o,wr.cell? ⟨w.heap.size,o,none⟩=#[Value.int .i64 c.cap,.int .i64 c.sent,.int .i64 c.got,.int .i64 c.fin,.slice a c.cells.length p,.slice b c.words.length q,.slice (some ⟨b3,o3,none⟩) hs.length r,.slice e ds.length s,.int .i64 now][o]?)∧w.heap.size<wr.heap.size∧Below w.heap.size w wr) (fun i _=>ds.length - (intOf i).toNat)
      case atStart=>exact ⟨0,Nat.zero_le _,rfl,rfl,hbx,hlt1,hB⟩
      case round =>
        clear hbx hlt1 hB hk
        obtain ⟨k,hk,rfl,Lx,hbx,hlt1,hB⟩:=hrel
        have x7:=hbx 7
        simp at x7
        by_cases hlt:k<ds.length
        · obtain h0|⟨b4,o4,rfl,hb4,hc4⟩:=H4.out
          · omega
          have cc:=fun j hj=>(hB.cell (p:=⟨b4,o4+k*7+j,none⟩) hb4).trans (hc4 k j hlt hj)
          have c0:=cc 0 tO
          have c1:=cc 1 tO
          have c2:=cc 2 tO
          have c3:=cc 3 tO
          have c4:=cc 4 tO
          have c5:=cc 5 tO
          have c6:=cc 6 tO
          clear cc hc4
          simp only [l7] at c0 c1 c2 c3 c4 c5 c6
          generalize hcg:ds.getD k De.zero=dd at c0 c1 c2 c3 c4 c5 c6
          simp [fq,Array.getD] at c0 c1 c2 c3 c4 c5 c6
          have HC:=Lib.hid hcg
          clear hcg
          have di:=hbx
          have bV:=hlt1
          have hl3:hs.length≤1099511627776:=by omega
          go_wp2_with (first|((go_at_call 70;refine au w zB fun bb=>?_;refine (zZ c hs.length now _ _ _ _ _ _ _ _ _ _ _ _ hl3 _).mono ?_;rintro _ w5 ⟨rfl,bU⟩;have mE:Below w.heap.size w w5:=bT bb bU;have gK:=bU.size;(try simp at gK);have zz:=And.intro (fun o=>bU.cell (p:=⟨wr.heap.size,o,none⟩) tS) <| And.intro (fun o=>bU.frozen (p:=⟨wr.heap.size,o,none⟩) tS) <| And.intro (fun o=>bU.cell (p:=⟨w.heap.size,o,none⟩) tS) <| fun o=>bU.frozen (p:=⟨w.heap.size,o,none⟩) tS;(first|simp [go_sem,di,dC,bV] at zz|simp [go_sem,di,bV] at zz|simp [go_sem] at zz|skip);(try clear KD KE);(try clear di dC);obtain ⟨KD,KE,di,dC⟩:=zz;(try clear KF);have KF:wr.heap.size<w5.heap.size:=tO;(try clear bV);have bV:w.heap.size<w5.heap.size:=tO;clear bU bb))|((go_at_call 120;refine au w zB fun bb=>?_;refine (vY _ _ _ _).mono ?_;rintro _ w6 ⟨rfl,fZ⟩;have Qn:Below w.heap.size w w6:=bT bb fZ;have rY:=fZ.size;(try simp at rY);have zz:=And.intro (fun o=>fZ.cell (p:=⟨wr.heap.size,o,none⟩) tS) <| And.intro (fun o=>fZ.frozen (p:=⟨wr.heap.size,o,none⟩) tS) <| And.intro (fun o=>fZ.cell (p:=⟨w.heap.size,o,none⟩) tS) <| fun o=>fZ.frozen (p:=⟨w.heap.size,o,none⟩) tS;(first|simp [go_sem,KD,KE,di,dC,bV,KF] at zz|simp [go_sem,di,dC,bV] at zz|simp [go_sem,di,bV] at zz|simp [go_sem] at zz|skip);(try clear KD KE);(try clear di dC);obtain ⟨KD,KE,di,dC⟩:=zz;(try clear KF);have KF:wr.heap.size<w6.heap.size:=tO;(try clear bV);have bV:w.heap.size<w6.heap.size:=tO;clear fZ bb))|(go_at_call 121;refine (fD _ _ _ _).mono ?_;rintro _ _ ⟨rfl,rfl⟩)|(go_at_call 122;refine (jY _ _).mono ?_;rintro _ _ ⟨rfl,rfl⟩))
          all_goals first
            | (go_ret;exact ⟨aZ (Iz (x:=⟨c,hs,ds,now⟩) hlt HC.out (by first|(simp [iK, *];done)|(have h9:=not_true ‹(!dL dd.out 0 999)=true›;simp [iK, *];done))),by exact zB⟩)
            | (go_roundw
               case rel=>exact ⟨k+1,by omega,by go_num,CL (x:=⟨c,hs,ds,now⟩) hlt HC.out Lx.out (by have h9:=not_false ‹(!dL dd.out 0 999)=false›;simp [iK, *]),fun o=>by simp [di],by omega,by exact zB⟩
               case measure=>simp [intOf];omega)
        · have:k=ds.length:=by omega
          subst this
          go_wp2
          go_ret
          exact ⟨aZ (Fs HH.out hall.out Lx.out),hB⟩
theorem jT (x:Wo) (a b d e:Option Addr) (p q r s:Nat) (w:World) (h1:eY w w.heap.size a x.ch.cells) (h2:eZ w w.heap.size b x.ch.words) (h3:Gh w w.heap.size d x.hands) (h4:Jj w w.heap.size e x.deals) (m3:x.hands.length≤1099511627776) (m4:x.deals.length≤1099511627776) :
    Calls Tryz.prog 69 #[zY x a b d e p q r s] w fun r w'=>r=.returned (.bool (dU x))∧Below w.heap.size w w':=by
  cases h:gN x with
  | false=>exact Ab x a b d e p q r s w h1 h2 m3 m4 h
  | true=>exact xA x.ch x.hands x.deals x.now a b d e p q r s w h1 h2 h3 h4 h
end
section
open Go.RowKit
attribute [local go_sem ↓] aH aM aN aA ax
theorem Fw {hs:List Ha} {now:Int} {k:Nat} {h:Ha} (hk:k<hs.length) (hc:hs.getD k Ha.zero=h) (e:(hs.take k).all (eF now)=true) (e1:eF now h=true):(hs.take (k+1)).all (eF now)=true:=by
 rw [ji _ k Ha.zero hk,hc,List.all_append,e];simp [e1]
theorem I1 {hs:List Ha} {now:Int} {k:Nat} {h:Ha} (hk:k<hs.length) (hc:hs.getD k Ha.zero=h) (e:eF now h=false):hs.all (eF now)=false:=by
 rw [List.all_eq_false]
 refine ⟨hs[k],List.getElem_mem hk,?_⟩
 rw [← hc] at e
 simpa [List.getD,List.getElem?_eq_getElem hk] using e
def lW (hs:List Ha) (now:Int):Bool:=decide (1≤hs.length) && (decide (hs.length≤6) && hs.all (eF now))
theorem KG {now:Int} {h:Ha} (e:bF h=true):Value.bool (decide (now<h.beg))=.bool (!eF now h):=by
 by_cases h2:now<h.beg <;> simp [eF,e,h2] <;> omega
theorem KH {now:Int} {h:Ha} (e:bF h=false):Value.bool true=.bool (!eF now h):=by simp [eF,e]
theorem Ac (hs:List Ha) (now:Int) (B:Nat) (d:Option Addr) (r:Nat) (w:World) (x6:w.cell? ⟨B,6,none⟩=some (.slice d hs.length r)) (x8:w.cell? ⟨B,8,none⟩=some (.int .i64 now)) (lB:B<w.heap.size) (h3:Gh w w.heap.size d hs) (m:hs.length≤1099511627776) :
  Calls Tryz.prog 99 #[.pointer (some ⟨B,0,none⟩)] w fun r w'=>r=.returned (.bool (lW hs now))∧Below w.heap.size w w':=by
 by_cases i2:1≤hs.length
 case neg =>
  have g1:decide ((hs.length:Int)<1)=true:=by simp;omega
  have e0:lW hs now=false:=by simp [lW];omega
  rw [e0]
  clear e0 i2
  go_enter Tryz.func99,Tryz.ntmps99
  go_wp2
  go_ret
  exact ⟨rfl,by exact zB⟩
 have g1:decide ((hs.length:Int)<1)=false:=by simp;omega
 by_cases i3:hs.length≤6
 case neg =>
  have g2:decide (6<(hs.length:Int))=true:=by simp;omega
  have e0:lW hs now=false:=by simp [lW];omega
  rw [e0]
  clear e0 i3
  go_enter Tryz.func99,Tryz.ntmps99
  go_wp2
  go_ret
  exact ⟨rfl,by exact zB⟩
 have g2:decide (6<(hs.length:Int))=false:=by simp;omega
 have e0:lW hs now=hs.all (eF now):=by simp [lW,i2,i3]
 rw [e0]
 clear e0
 obtain ⟨b3,o3,rfl,hb3,hc3⟩:∃ b o,d=some ⟨b,o,none⟩∧b<w.heap.size∧Hid (∀ i j,i<hs.length→j<14→w.cell? ⟨b,o+i*14+j,none⟩=some (gB hs i j)):=by
  rcases h3 with h0|h0
  ·exact absurd h0 tO
  ·exact h0
 have I2:=Lib.hid i2
 clear h3 i2
 go_enter Tryz.func99,Tryz.ntmps99
 go_wp2_with fail
 go_loopw [24] (fun i wr=>∃ k:Nat,k≤hs.length∧i=.int .i64 k∧Hid ((hs.take k).all (eF now)=true)∧Below w.heap.size w wr) (fun i _=>hs.length - (intOf i).toNat)
 case atStart=>exact ⟨0,Nat.zero_le _,rfl,rfl,by exact zB⟩
 case round =>
  obtain ⟨k,hk,rfl,hall,hB⟩:=hrel
  by_cases hlt:k<hs.length
  ·have cc:=fun j hj=>hc3.out k j hlt hj
   simp only [gB] at cc
   generalize hcg:hs.getD k Ha.zero=hx at cc
   have HC:=Lib.hid hcg
   clear hcg
   have Fv:∀ W:World,hp W b3=hp w b3→(oH (.pointer (some ⟨b3,o3+k*14,none⟩))).run Tryz.prog W=.ok (.agg (aa hx)) W:=fun W e=>lV hx fun j hj=>by rw [← cc j hj];exact World.cell?_of_block e
   clear cc
   have z3:hp wr b3=hp w b3:=hB.block b3 hb3
   have y8:=(hB.cell (p:=⟨B,8,none⟩) lB).trans x8
   have hk0:(0:Int)≤(k:Int):=by omega
   have hk1:(k:Int)<(hs.length:Int):=by omega
   go_wp2_with fail
   generalize kr:World.alloc wr _=w5
   have CO:hp w5 wr.heap.size=some (.cells (aa hx) 49):=by rw [← kr];exact heap_alloc_new _ _
   have jA:Below wr.heap.size wr w5:=by rw [← kr];exact bE _ _
   clear kr
   have y5:=(jA.cell (p:=⟨B,8,none⟩) (by have:=hB.size;simp;omega)).trans y8
   clear y8
   have y8:=y5
   clear y5
   have Qo:B<w5.heap.size:=by have:=hB.size;have:=jA.size;omega
   clear Fv z3 hk0 hk1 hc3 hb3
   refine bJ [[],[0],[0,1],[0,1,2],[0,1,2,3],[0,1,2,3,4],[0,1,2,3],[0,1,2,3,6],[0,1,2,3,6,7],[0,1,2,3,6,7,8],qB [8,9],qB [8,9,10]] [28,29,30,31,32,33,34,35,36,37,38,39] (fun l s wx=>(Below w5.heap.size w5 wx)∧(l 0=true→s 28=.agg (aa hx))∧(l 1=true→s 29=.bool (bF hx))∧(l 2=true→s 30=.bool (!bF hx))∧(l 3=true→s 31=.bool (!bF hx))∧(l 4=true→bF hx=true→s 32=.pointer (some ⟨wr.heap.size,11,none⟩))∧(l 5=true→bF hx=true→s 33=.int .i64 hx.beg)∧(l 6=true→bF hx=true→s 34=.pointer (some ⟨B,0,none⟩))∧(l 7=true→bF hx=true→s 35=.pointer (some ⟨B,0,none⟩))∧(l 8=true→bF hx=true→s 36=.pointer (some ⟨B,8,none⟩))∧(l 9=true→bF hx=true→s 37=.int .i64 now)∧(l 10=true→bF hx=true→s 38=.bool (decide (now<hx.beg)))∧(l 11=true→s 39=.bool (!eF now hx))) (by kernel_rfl) (by kernel_rfl) (by kernel_rfl) (fun s=>by (simp only [fill,gp,List.setIfInBounds_toArray,List.set_cons_zero,List.set_cons_succ];rfl)) (fun s=>⟨(Below.refl _ _).drew,nB,nB,nB,nB,nB,nB,nB,nB,nB,nB,nB,nB⟩) ?_ ?_
   refine ⟨?_,?_,?_,?_,?_,?_,?_,?_,?_,?_,?_,?_,trivial⟩;iterate 12 (intro l s wx hl hd hn hf K hK;rotate_left)
   ·intro l s w6 jy hf
    have ec:=(jC (jD hf)) (jy 11 rfl)
    have hb6:Below w5.heap.size w5 w6:=hf.1
    simp only [ec]
    clear ec hf jy
    have Eh:Below w.heap.size w w6:=bT hB (jA.trans (hb6.mono jA.size))
    cases hG:eF now hx with
    | true =>
     go_wp2
     go_roundw
     case rel=>exact ⟨k+1,by omega,by go_num,Fw hlt HC.out hall.out hG,Eh⟩
     case measure=>simp [intOf];omega
    | false =>
     go_wp2
     go_ret
     exact ⟨aZ (I1 hlt HC.out hG).symm,Eh⟩
   ·have z:=fC CO hf.out.1
    go_simp
    refine hK.out (upd s 28 (.agg (aa hx))) _ _ (by simp [ae] <;> rfl) (kA (kX (fun _=>rfl) id) hf.out)
   ·have e0:=(hf.out.2.1 (hd 0 rfl))
    go_simp
    go_at_call 102
    refine (gG hx _).mono ?_
    rintro _ wy ⟨rfl,hE⟩
    refine hK.out (upd s 29 (.bool (bF hx))) _ _ (by simp [ae,e0] <;> rfl) (kX (bT hf.out.1 hE) (kA (kX (fun _=>rfl) (kX (nU (hn 2 rfl)) (kX (nU (hn 3 rfl)) (kX (nU (hn 4 rfl)) (kX (nU (hn 5 rfl)) (kX (nU (hn 6 rfl)) (kX (nU (hn 7 rfl)) (kX (nU (hn 8 rfl)) (kX (nU (hn 9 rfl)) (kX (nU (hn 10 rfl)) (fun _=>nU (hn 11 rfl))))))))))))) hf.out)
   ·have e1:=(hf.out.2.2.1 (hd 1 rfl))
    go_simp
    refine hK.out (upd s 30 (.bool (!bF hx))) _ _ (by simp [ae,e1] <;> rfl) (kB (kA (kX (fun _=>rfl) id)) hf.out)
   ·have e2:=(hf.out.2.2.2.1 (hd 2 rfl))
    go_simp
    refine hK.out (upd s 31 (.bool (!bF hx))) _ _ (by simp [ae,e2] <;> rfl) (kC (kX (fun _=>rfl) id) hf.out)
   ·have e3:=(hf.out.2.2.2.2.1 (hd 3 rfl))
    cases hG:(bF hx) with
    | true =>
     rw [hG] at e3
     go_simp
     refine hK.out (upd s 32 (.pointer (some ⟨wr.heap.size,11,none⟩))) _ _ (by simp [ae,e3] <;> rfl) (kC (kA (kX (fun _ _=>rfl) id)) hf.out)
    | false =>
     rw [hG] at e3
     go_simp
     refine hK.out (upd s 32 (undef)) _ _ (by simp [ae,e3] <;> rfl) (kC (kA (kX (fun _ h=>Bool.noConfusion (h.symm.trans hG)) id)) hf.out)
   ·have e3:=(hf.out.2.2.2.2.1 (hd 3 rfl))
    cases hG:(bF hx) with
    | true =>
     rw [hG] at e3
     have e4:=((jC hf.out).2.1 (hd 4 rfl)) hG
     have z:=(bO (fC CO hf.out.1)).1 11
     go_simp
     refine hK.out (upd s 33 (.int .i64 hx.beg)) _ _ (by simp [ae,e3,e4] <;> rfl) (kC (kB (kX (fun _ _=>rfl) id)) hf.out)
    | false =>
     rw [hG] at e3
     go_simp
     refine hK.out (upd s 33 (undef)) _ _ (by simp [ae,e3] <;> rfl) (kC (kB (kX (fun _ h=>Bool.noConfusion (h.symm.trans hG)) id)) hf.out)
   ·have e3:=(hf.out.2.2.2.2.1 (hd 3 rfl))
    cases hG:(bF hx) with
    | true =>
     rw [hG] at e3
     go_simp
     refine hK.out (upd s 34 (.pointer (some ⟨B,0,none⟩))) _ _ (by simp [ae,e3] <;> rfl) (kC (kB (kA (kX (fun _ _=>rfl) id))) hf.out)
    | false =>
     rw [hG] at e3
     go_simp
     refine hK.out (upd s 34 (undef)) _ _ (by simp [ae,e3] <;> rfl) (kC (kB (kA (kX (fun _ h=>Bool.noConfusion (h.symm.trans hG)) id))) hf.out)
   ·have e3:=(hf.out.2.2.2.2.1 (hd 3 rfl))
    cases hG:(bF hx) with
    | true =>
     rw [hG] at e3
     have e6:=((jC hf.out).2.2.2.1 (hd 6 rfl)) hG
     go_simp
     refine hK.out (upd s 35 (.pointer (some ⟨B,0,none⟩))) _ _ (by simp [ae,e3,e6] <;> rfl) (kD (kX (fun _ _=>rfl) id) hf.out)
    | false =>
     rw [hG] at e3
     go_simp
     refine hK.out (upd s 35 (undef)) _ _ (by simp [ae,e3] <;> rfl) (kD (kX (fun _ h=>Bool.noConfusion (h.symm.trans hG)) id) hf.out)
   ·have e3:=(hf.out.2.2.2.2.1 (hd 3 rfl))
    cases hG:(bF hx) with
    | true =>
     rw [hG] at e3
     have e7:=((jD hf.out).1 (hd 7 rfl)) hG
     go_simp
     refine hK.out (upd s 36 (.pointer (some ⟨B,8,none⟩))) _ _ (by simp [ae,e3,e7] <;> rfl) (kD (kA (kX (fun _ _=>rfl) id)) hf.out)
    | false =>
     rw [hG] at e3
     go_simp
     refine hK.out (upd s 36 (undef)) _ _ (by simp [ae,e3] <;> rfl) (kD (kA (kX (fun _ h=>Bool.noConfusion (h.symm.trans hG)) id)) hf.out)
   ·have e3:=(hf.out.2.2.2.2.1 (hd 3 rfl))
    cases hG:(bF hx) with
    | true =>
     rw [hG] at e3
     have e8:=((jD hf.out).2.1 (hd 8 rfl)) hG
     have z:=((hf.out.1).cell (p:=⟨B,8,none⟩) tO).trans y8
     go_simp
     refine hK.out (upd s 37 (.int .i64 now)) _ _ (by simp [ae,e3,e8] <;> rfl) (kD (kB (kX (fun _ _=>rfl) id)) hf.out)
    | false =>
     rw [hG] at e3
     go_simp
     refine hK.out (upd s 37 (undef)) _ _ (by simp [ae,e3] <;> rfl) (kD (kB (kX (fun _ h=>Bool.noConfusion (h.symm.trans hG)) id)) hf.out)
   ·have e3:=(hf.out.2.2.2.2.1 (hd 3 rfl))
    cases hG:(bF hx) with
    | true =>
     rw [hG] at e3
     have e5:=((jC hf.out).2.2.1 (hd 5 rfl)) hG
     have e9:=((jD hf.out).2.2.1 (hd 9 rfl)) hG
     go_simp
     refine hK.out (upd s 38 (.bool (decide (now<hx.beg)))) _ _ (by simp [ae,e3,e5,e9] <;> rfl) (kD (kB (kA (kX (fun _ _=>rfl) id))) hf.out)
    | false =>
     rw [hG] at e3
     go_simp
     refine hK.out (upd s 38 (undef)) _ _ (by simp [ae,e3] <;> rfl) (kD (kB (kA (kX (fun _ h=>Bool.noConfusion (h.symm.trans hG)) id))) hf.out)
   ·have e3:=(hf.out.2.2.2.2.1 (hd 3 rfl))
    have e10:=((jD hf.out).2.2.2.1 (hd 10 rfl))
    cases hG:(bF hx) with
    | true =>
     rw [hG] at e3
     replace e10:=e10 hG
     go_simp
     refine hK.out (upd s 39 (.bool (decide (now<hx.beg)))) _ _ (by simp [ae,e3,e10] <;> rfl) (kD (kC (fun _=>fun _=>by rw [show (upd s 39 (.bool (decide (now<hx.beg)))) 39=.bool (decide (now<hx.beg)) from rfl,KG hG])) hf.out)
    | false =>
     clear e10
     rw [hG] at e3
     go_simp
     refine hK.out (upd s 39 (.bool true)) _ _ (by simp [ae,e3] <;> rfl) (kD (kC (fun _=>fun _=>by rw [show (upd s 39 (.bool true)) 39=.bool true from rfl,KH hG])) hf.out)
  ·have:k=hs.length:=by omega
   subst this
   have h1:=hall.out
   rw [List.take_length] at h1
   go_wp2
   go_ret
   exact ⟨aZ h1.symm,hB⟩
end
section
open Go.RowKit
theorem CP {ds:List De} {n:Nat} {now:Int} {k:Nat} {h:De} (hk:k<ds.length) (hc:ds.getD k De.zero=h) (e:(ds.take k).all (iK n now)=true) (e1:iK n now h=true):(ds.take (k+1)).all (iK n now)=true:=by
 rw [ji _ k De.zero hk,hc,List.all_append,e];simp [e1]
theorem Fx {ds:List De} {n:Nat} {now:Int} {k:Nat} {h:De} (hk:k<ds.length) (hc:ds.getD k De.zero=h) (e:iK n now h=false):ds.all (iK n now)=false:=by
 rw [List.all_eq_false]
 refine ⟨ds[k],List.getElem_mem hk,?_⟩
 rw [← hc] at e
 simpa [List.getD,List.getElem?_eq_getElem hk] using e
def o5 (ds:List De) (n:Nat) (now:Int):Bool:=decide (ds.length≤1000) && ds.all (iK n now)
theorem Ei {a:Bool} {b:Bool} (e:a=true):Value.bool (!b)=.bool (!(a && b)):=by rw [e];rfl
theorem Ej {a:Bool} {b:Bool} (e:a=false):Value.bool true=.bool (!(a && b)):=by rw [e];rfl
theorem Ad (ds:List De) (n:Nat) (now:Int) (B:Nat) (d e:Option Addr) (r s:Nat) (w:World) (x6:w.cell? ⟨B,6,none⟩=some (.slice d n r)) (x7:w.cell? ⟨B,7,none⟩=some (.slice e ds.length s)) (x8:w.cell? ⟨B,8,none⟩=some (.int .i64 now)) (lB:B<w.heap.size) (h4:Jj w w.heap.size e ds) (m:ds.length≤1099511627776) (mn:n≤1099511627776) :
  Calls Tryz.prog 100 #[.pointer (some ⟨B,0,none⟩)] w fun r w'=>r=.returned (.bool (o5 ds n now))∧Below w.heap.size w w':=by
 by_cases i3:ds.length≤1000
 case neg =>
  have g2:decide (1000<(ds.length:Int))=true:=by simp;omega
  have e0:o5 ds n now=false:=by simp [o5];omega
  rw [e0]
  clear e0 i3
  go_enter Tryz.func100,Tryz.ntmps100
  go_wp2
  go_ret
  exact ⟨rfl,by exact zB⟩
 have g2:decide (1000<(ds.length:Int))=false:=by simp;omega
 have e0:o5 ds n now=ds.all (iK n now):=by simp [o5,i3]
 rw [e0]
 clear e0
 have H4:=Lib.hid h4
 clear h4
 go_enter Tryz.func100,Tryz.ntmps100
 go_wp2_with fail
 go_loopw [16] (fun i wr=>∃ k:Nat,k≤ds.length∧i=.int .i64 k∧Hid ((ds.take k).all (iK n now)=true)∧Below w.heap.size w wr) (fun i _=>ds.length - (intOf i).toNat)
 case atStart=>exact ⟨0,Nat.zero_le _,rfl,rfl,by exact zB⟩
 case round =>
  obtain ⟨k,hk,rfl,hall,hB⟩:=hrel
  by_cases hlt:k<ds.length
  ·obtain h0|⟨b4,o4,rfl,hb4,hc4⟩:=H4.out
   ·omega
   have cc:=fun j hj=>(hB.cell (p:=⟨b4,o4+k*7+j,none⟩) hb4).trans (hc4 k j hlt hj)
   have c0:=cc 0 tO
   have c1:=cc 1 tO
   have c2:=cc 2 tO
   have c3:=cc 3 tO
   have c4:=cc 4 tO
   have c5:=cc 5 tO
   have c6:=cc 6 tO
   clear cc hc4
   simp only [l7] at c0 c1 c2 c3 c4 c5 c6
   generalize hcg:ds.getD k De.zero=dd at c0 c1 c2 c3 c4 c5 c6
   simp [fq,Array.getD] at c0 c1 c2 c3 c4 c5 c6
   have HC:=Lib.hid hcg
   clear hcg
   have y6:=(hB.cell (p:=⟨B,6,none⟩) lB).trans x6
   have y8:=(hB.cell (p:=⟨B,8,none⟩) lB).trans x8
   have hk0:(0:Int)≤(k:Int):=by omega
   have hk1:(k:Int)<(ds.length:Int):=by omega
   go_wp2_with fail
   generalize kr:World.alloc wr _=w5
   have CO:hp w5 wr.heap.size=some (.cells #[.int .i64 dd.task,.int .i64 dd.code,.int .i64 dd.elem,.int .i64 dd.beg,.int .i64 dd.fin,.int .i64 dd.reply,.int .i64 dd.out] 44):=by rw [← kr];exact heap_alloc_new _ _
   have jA:Below wr.heap.size wr w5:=by rw [← kr];exact bE _ _
   clear kr
   have EC:=hB.size
   replace y6:=(jA.cell (p:=⟨B,6,none⟩) (by simp;omega)).trans y6
   replace y8:=(jA.cell (p:=⟨B,8,none⟩) (by simp;omega)).trans y8
   have Qo:B<w5.heap.size:=by have:=jA.size;omega
   obtain ⟨q0,hq0⟩:∃ q,Hid (zX n dd.task=q):=⟨_,rfl⟩
   obtain ⟨q1,hq1⟩:∃ q,Hid (dL dd.beg 0 now=q):=⟨_,rfl⟩
   obtain ⟨q2,hq2⟩:∃ q,Hid (dL dd.fin 0 now=q):=⟨_,rfl⟩
   obtain ⟨q3,hq3⟩:∃ q,Hid (kK dd.code dd.elem dd.reply=q):=⟨_,rfl⟩
   obtain ⟨q4,hq4⟩:∃ q,Hid (dL dd.out 0 999=q):=⟨_,rfl⟩
   have hQ:iK n now dd=((((q0 && q1) && q2) && q3) && q4):=by simp only [iK,hq0.out,hq1.out,hq2.out,hq3.out,hq4.out];cases q0 <;> cases q1 <;> cases q2 <;> cases q3 <;> cases q4 <;> rfl
   have HQ:=Lib.hid hQ
   clear hQ c0 c1 c2 c3 c4 c5 c6 hk0 hk1 hb4
   refine bJ [[],[],[1],[0,1,2],[0,1,2,3],[0,1,2,3,4],[0,1,2,3,4,5],[0,1,2,3,4,5,6],[0,1,2,3,4,5],[0,1,2,3,4,5,8],[0,1,2,3,4,5,8,9],[0,1,2,3,4,5,8,9,10],qB [8,9,10,11],qB [8,9,10,11,12],qB [8,9,10,11,12,13],qB [8,9,10,11,12,13,14],qC [],qC [16],qC [],qC [18],qC [18,19],qC [18,19,20],qC [16,17,18,19,20,21],qC [16,17,18,19,20,21,22],qD [],qD [24],qD [24,25],qD [24,25,26],qD [24,25],qD [24,25,28],qD [24,25,26,27,28,29],qD [24,25,26,27,28,29,30],qE [],qE [32],qE [32,33],qE [32,33,34],qE [32,33,34,35],qE [32,33,34,35,36],qE [32,33,34,35,36,37]] [20,21,22,23,24,25,26,27,28,29,30,31,32,33,34,35,36,37,38,39,40,41,42,43,44,45,46,47,48,49,50,51,52,53,54,55,56,57,58] (fun l s wx=>(Below w5.heap.size w5 wx)∧(l 0=true→s 20=.pointer (some ⟨B,0,none⟩))∧(l 1=true→s 21=.pointer (some ⟨wr.heap.size,0,none⟩))∧(l 2=true→s 22=.int .i64 dd.task)∧(l 3=true→s 23=.bool q0)∧(l 4=true→s 24=.bool (!q0))∧(l 5=true→s 25=.bool (!q0))∧(l 6=true→q0=true→s 26=.pointer (some ⟨wr.heap.size,3,none⟩))∧(l 7=true→q0=true→s 27=.int .i64 dd.beg)∧(l 8=true→q0=true→s 28=.pointer (some ⟨B,0,none⟩))∧(l 9=true→q0=true→s 29=.pointer (some ⟨B,0,none⟩))∧(l 10=true→q0=true→s 30=.pointer (some ⟨B,8,none⟩))∧(l 11=true→q0=true→s 31=.int .i64 now)∧(l 12=true→q0=true→s 32=.bool q1)∧(l 13=true→q0=true→s 33=.bool (!q1))∧(l 14=true→s 34=.bool (!(q0 && q1)))∧(l 15=true→s 35=.bool (!(q0 && q1)))∧(l 16=true→(q0 && q1)=true→s 36=.pointer (some ⟨wr.heap.size,4,none⟩))∧(l 17=true→(q0 && q1)=true→s 37=.int .i64 dd.fin)∧(l 18=true→(q0 && q1)=true→s 38=.pointer (some ⟨B,0,none⟩))∧(l 19=true→(q0 && q1)=true→s 39=.pointer (some ⟨B,0,none⟩))∧(l 20=true→(q0 && q1)=true→s 40=.pointer (some ⟨B,8,none⟩))∧(l 21=true→(q0 && q1)=true→s 41=.int .i64 now)∧(l 22=true→(q0 && q1)=true→s 42=.bool q2)∧(l 23=true→(q0 && q1)=true→s 43=.bool (!q2))∧(l 24=true→s 44=.bool (!((q0 && q1) && q2)))∧(l 25=true→s 45=.bool (!((q0 && q1) && q2)))∧(l 26=true→((q0 && q1) && q2)=true→s 46=.pointer (some ⟨wr.heap.size,1,none⟩))∧(l 27=true→((q0 && q1) && q2)=true→s 47=.agg #[.int .i64 dd.code,.int .i64 dd.elem])∧(l 28=true→((q0 && q1) && q2)=true→s 48=.pointer (some ⟨wr.heap.size,5,none⟩))∧(l 29=true→((q0 && q1) && q2)=true→s 49=.int .i64 dd.reply)∧(l 30=true→((q0 && q1) && q2)=true→s 50=.bool q3)∧(l 31=true→((q0 && q1) && q2)=true→s 51=.bool (!q3))∧(l 32=true→s 52=.bool (!(((q0 && q1) && q2) && q3)))∧(l 33=true→s 53=.bool (!(((q0 && q1) && q2) && q3)))∧(l 34=true→(((q0 && q1) && q2) && q3)=true→s 54=.pointer (some ⟨wr.heap.size,6,none⟩))∧(l 35=true→(((q0 && q1) && q2) && q3)=true→s 55=.int .i64 dd.out)∧(l 36=true→(((q0 && q1) && q2) && q3)=true→s 56=.bool q4)∧(l 37=true→(((q0 && q1) && q2) && q3)=true→s 57=.bool (!q4))∧(l 38=true→s 58=.bool (!((((q0 && q1) && q2) && q3) && q4)))) (by kernel_rfl) (by kernel_rfl) (by kernel_rfl) (fun s=>by (simp only [fill,gp,List.setIfInBounds_toArray,List.set_cons_zero,List.set_cons_succ];rfl)) (fun s=>⟨(Below.refl _ _).drew,nB,nB,nB,nB,nB,nB,nB,nB,nB,nB,nB,nB,nB,nB,nB,nB,nB,nB,nB,nB,nB,nB,nB,nB,nB,nB,nB,nB,nB,nB,nB,nB,nB,nB,nB,nB,nB,nB,nB⟩) ?_ ?_
   refine ⟨?_,?_,?_,?_,?_,?_,?_,?_,?_,?_,?_,?_,?_,?_,?_,?_,?_,?_,?_,?_,?_,?_,?_,?_,?_,?_,?_,?_,?_,?_,?_,?_,?_,?_,?_,?_,?_,?_,?_,trivial⟩;iterate 39 (intro l s wx hl hd hn hf K hK;rotate_left)
   ·intro l s w6 jy hf
    have ec:=(jC (jE (jE hf))).2.2.2 (jy 38 rfl)
    have hb6:Below w5.heap.size w5 w6:=hf.1
    simp only [ec]
    clear ec hf jy
    have Eh:Below w.heap.size w w6:=bT hB (jA.trans (hb6.mono jA.size))
    cases hG:((((q0 && q1) && q2) && q3) && q4) with
    | true =>
     go_wp2
     go_roundw
     case rel=>exact ⟨k+1,by omega,by go_num,CP hlt HC.out hall.out (HQ.out.trans hG),Eh⟩
     case measure=>simp [intOf];omega
    | false =>
     go_wp2
     go_ret
     exact ⟨aZ (Fx hlt HC.out (HQ.out.trans hG)).symm,Eh⟩
   ·go_simp
    refine hK.out (upd s 20 (.pointer (some ⟨B,0,none⟩))) _ _ (by simp [ae] <;> rfl) (kA (kX (fun _=>rfl) id) hf.out)
   ·go_simp
    refine hK.out (upd s 21 (.pointer (some ⟨wr.heap.size,0,none⟩))) _ _ (by simp [ae] <;> rfl) (kB (kX (fun _=>rfl) id) hf.out)
   ·have e1:=(hf.out.2.2.1 (hd 1 rfl))
    have z:=(bO (fC CO hf.out.1)).1 0
    go_simp
    refine hK.out (upd s 22 (.int .i64 dd.task)) _ _ (by simp [ae,e1] <;> rfl) (kB (kA (kX (fun _=>rfl) id)) hf.out)
   ·have e0:=(hf.out.2.1 (hd 0 rfl))
    have e2:=(hf.out.2.2.2.1 (hd 2 rfl))
    have z:=((hf.out.1).cell (p:=⟨B,6,none⟩) tO).trans y6
    go_simp
    go_at_call 50
    refine (CJ n dd.task B d r _ z mn).mono ?_
    rintro _ _ ⟨rfl,rfl⟩
    rw [hq0.out]
    refine hK.out (upd s 23 (.bool q0)) _ _ (by simp [ae,e0,e2] <;> rfl) (kC (kX (fun _=>rfl) id) hf.out)
   ·have e3:=(hf.out.2.2.2.2.1 (hd 3 rfl))
    go_simp
    refine hK.out (upd s 24 (.bool (!q0))) _ _ (by simp [ae,e3] <;> rfl) (kC (kA (kX (fun _=>rfl) id)) hf.out)
   ·have e4:=((jC hf.out).2.1 (hd 4 rfl))
    go_simp
    refine hK.out (upd s 25 (.bool (!q0))) _ _ (by simp [ae,e4] <;> rfl) (kC (kB (kX (fun _=>rfl) id)) hf.out)
   ·have e5:=((jC hf.out).2.2.1 (hd 5 rfl))
    cases hG:(q0) with
    | true =>
     rw [hG] at e5
     go_simp
     refine hK.out (upd s 26 (.pointer (some ⟨wr.heap.size,3,none⟩))) _ _ (by simp [ae,e5] <;> rfl) (kC (kB (kA (kX (fun _ _=>rfl) id))) hf.out)
    | false =>
     rw [hG] at e5
     go_simp
     refine hK.out (upd s 26 (undef)) _ _ (by simp [ae,e5] <;> rfl) (kC (kB (kA (kX (fun _ h=>Bool.noConfusion (h.symm.trans hG)) id))) hf.out)
   ·have e5:=((jC hf.out).2.2.1 (hd 5 rfl))
    cases hG:(q0) with
    | true =>
     rw [hG] at e5
     have e6:=((jC hf.out).2.2.2.1 (hd 6 rfl)) hG
     have z:=(bO (fC CO hf.out.1)).1 3
     go_simp
     refine hK.out (upd s 27 (.int .i64 dd.beg)) _ _ (by simp [ae,e5,e6] <;> rfl) (kD (kX (fun _ _=>rfl) id) hf.out)
    | false =>
     rw [hG] at e5
     go_simp
     refine hK.out (upd s 27 (undef)) _ _ (by simp [ae,e5] <;> rfl) (kD (kX (fun _ h=>Bool.noConfusion (h.symm.trans hG)) id) hf.out)
   ·have e5:=((jC hf.out).2.2.1 (hd 5 rfl))
    cases hG:(q0) with
    | true =>
     rw [hG] at e5
     go_simp
     refine hK.out (upd s 28 (.pointer (some ⟨B,0,none⟩))) _ _ (by simp [ae,e5] <;> rfl) (kD (kA (kX (fun _ _=>rfl) id)) hf.out)
    | false =>
     rw [hG] at e5
     go_simp
     refine hK.out (upd s 28 (undef)) _ _ (by simp [ae,e5] <;> rfl) (kD (kA (kX (fun _ h=>Bool.noConfusion (h.symm.trans hG)) id)) hf.out)
   ·have e5:=((jC hf.out).2.2.1 (hd 5 rfl))
    cases hG:(q0) with
    | true =>
     rw [hG] at e5
     have e8:=((jD hf.out).2.1 (hd 8 rfl)) hG
     go_simp
     refine hK.out (upd s 29 (.pointer (some ⟨B,0,none⟩))) _ _ (by simp [ae,e5,e8] <;> rfl) (kD (kB (kX (fun _ _=>rfl) id)) hf.out)
    | false =>
     rw [hG] at e5
     go_simp
     refine hK.out (upd s 29 (undef)) _ _ (by simp [ae,e5] <;> rfl) (kD (kB (kX (fun _ h=>Bool.noConfusion (h.symm.trans hG)) id)) hf.out)
   ·have e5:=((jC hf.out).2.2.1 (hd 5 rfl))
    cases hG:(q0) with
    | true =>
     rw [hG] at e5
     have e9:=((jD hf.out).2.2.1 (hd 9 rfl)) hG
     go_simp
     refine hK.out (upd s 30 (.pointer (some ⟨B,8,none⟩))) _ _ (by simp [ae,e5,e9] <;> rfl) (kD (kB (kA (kX (fun _ _=>rfl) id))) hf.out)
    | false =>
     rw [hG] at e5
     go_simp
     refine hK.out (upd s 30 (undef)) _ _ (by simp [ae,e5] <;> rfl) (kD (kB (kA (kX (fun _ h=>Bool.noConfusion (h.symm.trans hG)) id))) hf.out)
   ·have e5:=((jC hf.out).2.2.1 (hd 5 rfl))
    cases hG:(q0) with
    | true =>
     rw [hG] at e5
     have e10:=((jD hf.out).2.2.2.1 (hd 10 rfl)) hG
     have z:=((hf.out.1).cell (p:=⟨B,8,none⟩) tO).trans y8
     go_simp
     refine hK.out (upd s 31 (.int .i64 now)) _ _ (by simp [ae,e5,e10] <;> rfl) (kD (kC (kX (fun _ _=>rfl) id)) hf.out)
    | false =>
     rw [hG] at e5
     go_simp
     refine hK.out (upd s 31 (undef)) _ _ (by simp [ae,e5] <;> rfl) (kD (kC (kX (fun _ h=>Bool.noConfusion (h.symm.trans hG)) id)) hf.out)
   ·have e5:=((jC hf.out).2.2.1 (hd 5 rfl))
    cases hG:(q0) with
    | true =>
     rw [hG] at e5
     have e7:=((jD hf.out).1 (hd 7 rfl)) hG
     have e11:=((jC (jD hf.out)).1 (hd 11 rfl)) hG
     go_simp
     go_at_call 45
     refine (fM dd.beg now _).mono ?_
     rintro _ _ ⟨rfl,rfl⟩
     rw [hq1.out]
     refine hK.out (upd s 32 (.bool q1)) _ _ (by simp [ae,e5,e7,e11] <;> rfl) (kD (kC (kA (kX (fun _ _=>rfl) id))) hf.out)
    | false =>
     rw [hG] at e5
     go_simp
     refine hK.out (upd s 32 (undef)) _ _ (by simp [ae,e5] <;> rfl) (kD (kC (kA (kX (fun _ h=>Bool.noConfusion (h.symm.trans hG)) id))) hf.out)
   ·have e5:=((jC hf.out).2.2.1 (hd 5 rfl))
    cases hG:(q0) with
    | true =>
     rw [hG] at e5
     have e12:=((jC (jD hf.out)).2.1 (hd 12 rfl)) hG
     go_simp
     refine hK.out (upd s 33 (.bool (!q1))) _ _ (by simp [ae,e5,e12] <;> rfl) (kD (kC (kB (kX (fun _ _=>rfl) id))) hf.out)
    | false =>
     rw [hG] at e5
     go_simp
     refine hK.out (upd s 33 (undef)) _ _ (by simp [ae,e5] <;> rfl) (kD (kC (kB (kX (fun _ h=>Bool.noConfusion (h.symm.trans hG)) id))) hf.out)
   ·have e5:=((jC hf.out).2.2.1 (hd 5 rfl))
    have e13:=((jC (jD hf.out)).2.2.1 (hd 13 rfl))
    cases hG:(q0) with
    | true =>
     rw [hG] at e5
     replace e13:=e13 hG
     go_simp
     refine hK.out (upd s 34 (.bool (!q1))) _ _ (by simp [ae,e5,e13] <;> rfl) (kD (kC (kB (kA (kX (fun _=>by rw [show (upd s 34 (.bool (!q1))) 34=.bool (!q1) from rfl];exact Ei hG) id)))) hf.out)
    | false =>
     clear e13
     rw [hG] at e5
     go_simp
     refine hK.out (upd s 34 (.bool true)) _ _ (by simp [ae,e5] <;> rfl) (kD (kC (kB (kA (kX (fun _=>by rw [show (upd s 34 (.bool true)) 34=.bool true from rfl];exact Ej hG) id)))) hf.out)
   ·have e14:=((jC (jD hf.out)).2.2.2.1 (hd 14 rfl))
    go_simp
    refine hK.out (upd s 35 (.bool (!(q0 && q1)))) _ _ (by simp [ae,e14] <;> rfl) (kE (kX (fun _=>rfl) id) hf.out)
   ·have e15:=((jE hf.out).1 (hd 15 rfl))
    cases hG:((q0 && q1)) with
    | true =>
     rw [hG] at e15
     go_simp
     refine hK.out (upd s 36 (.pointer (some ⟨wr.heap.size,4,none⟩))) _ _ (by simp [ae,e15] <;> rfl) (kE (kA (kX (fun _ _=>rfl) id)) hf.out)
    | false =>
     rw [hG] at e15
     go_simp
     refine hK.out (upd s 36 (undef)) _ _ (by simp [ae,e15] <;> rfl) (kE (kA (kX (fun _ h=>Bool.noConfusion (h.symm.trans hG)) id)) hf.out)
   ·have e15:=((jE hf.out).1 (hd 15 rfl))
    cases hG:((q0 && q1)) with
    | true =>
     rw [hG] at e15
     have e16:=((jE hf.out).2.1 (hd 16 rfl)) hG
     have z:=(bO (fC CO hf.out.1)).1 4
     go_simp
     refine hK.out (upd s 37 (.int .i64 dd.fin)) _ _ (by simp [ae,e15,e16] <;> rfl) (kE (kB (kX (fun _ _=>rfl) id)) hf.out)
    | false =>
     rw [hG] at e15
     go_simp
     refine hK.out (upd s 37 (undef)) _ _ (by simp [ae,e15] <;> rfl) (kE (kB (kX (fun _ h=>Bool.noConfusion (h.symm.trans hG)) id)) hf.out)
   ·have e15:=((jE hf.out).1 (hd 15 rfl))
    cases hG:((q0 && q1)) with
    | true =>
     rw [hG] at e15
     go_simp
     refine hK.out (upd s 38 (.pointer (some ⟨B,0,none⟩))) _ _ (by simp [ae,e15] <;> rfl) (kE (kB (kA (kX (fun _ _=>rfl) id))) hf.out)
    | false =>
     rw [hG] at e15
     go_simp
     refine hK.out (upd s 38 (undef)) _ _ (by simp [ae,e15] <;> rfl) (kE (kB (kA (kX (fun _ h=>Bool.noConfusion (h.symm.trans hG)) id))) hf.out)
   ·have e15:=((jE hf.out).1 (hd 15 rfl))
    cases hG:((q0 && q1)) with
    | true =>
     rw [hG] at e15
     have e18:=((jE hf.out).2.2.2.1 (hd 18 rfl)) hG
     go_simp
     refine hK.out (upd s 39 (.pointer (some ⟨B,0,none⟩))) _ _ (by simp [ae,e15,e18] <;> rfl) (kE (kC (kX (fun _ _=>rfl) id)) hf.out)
    | false =>
     rw [hG] at e15
     go_simp
     refine hK.out (upd s 39 (undef)) _ _ (by simp [ae,e15] <;> rfl) (kE (kC (kX (fun _ h=>Bool.noConfusion (h.symm.trans hG)) id)) hf.out)
   ·have e15:=((jE hf.out).1 (hd 15 rfl))
    cases hG:((q0 && q1)) with
    | true =>
     rw [hG] at e15
     have e19:=((jC (jE hf.out)).1 (hd 19 rfl)) hG
     go_simp
     refine hK.out (upd s 40 (.pointer (some ⟨B,8,none⟩))) _ _ (by simp [ae,e15,e19] <;> rfl) (kE (kC (kA (kX (fun _ _=>rfl) id))) hf.out)
    | false =>
     rw [hG] at e15
     go_simp
     refine hK.out (upd s 40 (undef)) _ _ (by simp [ae,e15] <;> rfl) (kE (kC (kA (kX (fun _ h=>Bool.noConfusion (h.symm.trans hG)) id))) hf.out)
   ·have e15:=((jE hf.out).1 (hd 15 rfl))
    cases hG:((q0 && q1)) with
    | true =>
     rw [hG] at e15
     have e20:=((jC (jE hf.out)).2.1 (hd 20 rfl)) hG
     have z:=((hf.out.1).cell (p:=⟨B,8,none⟩) tO).trans y8
     go_simp
     refine hK.out (upd s 41 (.int .i64 now)) _ _ (by simp [ae,e15,e20] <;> rfl) (kE (kC (kB (kX (fun _ _=>rfl) id))) hf.out)
    | false =>
     rw [hG] at e15
     go_simp
     refine hK.out (upd s 41 (undef)) _ _ (by simp [ae,e15] <;> rfl) (kE (kC (kB (kX (fun _ h=>Bool.noConfusion (h.symm.trans hG)) id))) hf.out)
   ·have e15:=((jE hf.out).1 (hd 15 rfl))
    cases hG:((q0 && q1)) with
    | true =>
     rw [hG] at e15
     have e17:=((jE hf.out).2.2.1 (hd 17 rfl)) hG
     have e21:=((jC (jE hf.out)).2.2.1 (hd 21 rfl)) hG
     go_simp
     go_at_call 45
     refine (fM dd.fin now _).mono ?_
     rintro _ _ ⟨rfl,rfl⟩
     rw [hq2.out]
     refine hK.out (upd s 42 (.bool q2)) _ _ (by simp [ae,e15,e17,e21] <;> rfl) (kE (kC (kB (kA (kX (fun _ _=>rfl) id)))) hf.out)
    | false =>
     rw [hG] at e15
     go_simp
     refine hK.out (upd s 42 (undef)) _ _ (by simp [ae,e15] <;> rfl) (kE (kC (kB (kA (kX (fun _ h=>Bool.noConfusion (h.symm.trans hG)) id)))) hf.out)
   ·have e15:=((jE hf.out).1 (hd 15 rfl))
    cases hG:((q0 && q1)) with
    | true =>
     rw [hG] at e15
     have e22:=((jC (jE hf.out)).2.2.2.1 (hd 22 rfl)) hG
     go_simp
     refine hK.out (upd s 43 (.bool (!q2))) _ _ (by simp [ae,e15,e22] <;> rfl) (kE (kD (kX (fun _ _=>rfl) id)) hf.out)
    | false =>
     rw [hG] at e15
     go_simp
     refine hK.out (upd s 43 (undef)) _ _ (by simp [ae,e15] <;> rfl) (kE (kD (kX (fun _ h=>Bool.noConfusion (h.symm.trans hG)) id)) hf.out)
   ·have e15:=((jE hf.out).1 (hd 15 rfl))
    have e23:=((jD (jE hf.out)).1 (hd 23 rfl))
    cases hG:((q0 && q1)) with
    | true =>
     rw [hG] at e15
     replace e23:=e23 hG
     go_simp
     refine hK.out (upd s 44 (.bool (!q2))) _ _ (by simp [ae,e15,e23] <;> rfl) (kE (kD (kA (kX (fun _=>by rw [show (upd s 44 (.bool (!q2))) 44=.bool (!q2) from rfl];exact Ei hG) id))) hf.out)
    | false =>
     clear e23
     rw [hG] at e15
     go_simp
     refine hK.out (upd s 44 (.bool true)) _ _ (by simp [ae,e15] <;> rfl) (kE (kD (kA (kX (fun _=>by rw [show (upd s 44 (.bool true)) 44=.bool true from rfl];exact Ej hG) id))) hf.out)
   ·have e24:=((jD (jE hf.out)).2.1 (hd 24 rfl))
    go_simp
    refine hK.out (upd s 45 (.bool (!((q0 && q1) && q2)))) _ _ (by simp [ae,e24] <;> rfl) (kE (kD (kB (kX (fun _=>rfl) id))) hf.out)
   ·have e25:=((jD (jE hf.out)).2.2.1 (hd 25 rfl))
    cases hG:(((q0 && q1) && q2)) with
    | true =>
     rw [hG] at e25
     go_simp
     refine hK.out (upd s 46 (.pointer (some ⟨wr.heap.size,1,none⟩))) _ _ (by simp [ae,e25] <;> rfl) (kE (kD (kB (kA (kX (fun _ _=>rfl) id)))) hf.out)
    | false =>
     rw [hG] at e25
     go_simp
     refine hK.out (upd s 46 (undef)) _ _ (by simp [ae,e25] <;> rfl) (kE (kD (kB (kA (kX (fun _ h=>Bool.noConfusion (h.symm.trans hG)) id)))) hf.out)
   ·have e25:=((jD (jE hf.out)).2.2.1 (hd 25 rfl))
    cases hG:(((q0 && q1) && q2)) with
    | true =>
     rw [hG] at e25
     have e26:=((jD (jE hf.out)).2.2.2.1 (hd 26 rfl)) hG
     have z:=(bO (fC CO hf.out.1)).1 1
     have z2:=(bO (fC CO hf.out.1)).1 2
     go_simp
     refine hK.out (upd s 47 (.agg #[.int .i64 dd.code,.int .i64 dd.elem])) _ _ (by simp [ae,e25,e26] <;> rfl) (kE (kD (kC (kX (fun _ _=>rfl) id))) hf.out)
    | false =>
     rw [hG] at e25
     go_simp
     refine hK.out (upd s 47 (undef)) _ _ (by simp [ae,e25] <;> rfl) (kE (kD (kC (kX (fun _ h=>Bool.noConfusion (h.symm.trans hG)) id))) hf.out)
   ·have e25:=((jD (jE hf.out)).2.2.1 (hd 25 rfl))
    cases hG:(((q0 && q1) && q2)) with
    | true =>
     rw [hG] at e25
     go_simp
     refine hK.out (upd s 48 (.pointer (some ⟨wr.heap.size,5,none⟩))) _ _ (by simp [ae,e25] <;> rfl) (kE (kD (kC (kA (kX (fun _ _=>rfl) id)))) hf.out)
    | false =>
     rw [hG] at e25
     go_simp
     refine hK.out (upd s 48 (undef)) _ _ (by simp [ae,e25] <;> rfl) (kE (kD (kC (kA (kX (fun _ h=>Bool.noConfusion (h.symm.trans hG)) id)))) hf.out)
   ·have e25:=((jD (jE hf.out)).2.2.1 (hd 25 rfl))
    cases hG:(((q0 && q1) && q2)) with
    | true =>
     rw [hG] at e25
     have e28:=((jC (jD (jE hf.out))).2.1 (hd 28 rfl)) hG
     have z:=(bO (fC CO hf.out.1)).1 5
     go_simp
     refine hK.out (upd s 49 (.int .i64 dd.reply)) _ _ (by simp [ae,e25,e28] <;> rfl) (kE (kD (kC (kB (kX (fun _ _=>rfl) id)))) hf.out)
    | false =>
     rw [hG] at e25
     go_simp
     refine hK.out (upd s 49 (undef)) _ _ (by simp [ae,e25] <;> rfl) (kE (kD (kC (kB (kX (fun _ h=>Bool.noConfusion (h.symm.trans hG)) id)))) hf.out)
   ·have e25:=((jD (jE hf.out)).2.2.1 (hd 25 rfl))
    cases hG:(((q0 && q1) && q2)) with
    | true =>
     rw [hG] at e25
     have e27:=((jC (jD (jE hf.out))).1 (hd 27 rfl)) hG
     have e29:=((jC (jD (jE hf.out))).2.2.1 (hd 29 rfl)) hG
     go_simp
     go_at_call 151
     refine (yV dd.code dd.elem dd.reply _).mono ?_
     rintro _ wy ⟨rfl,hE⟩
     rw [hq3.out]
     refine hK.out (upd s 50 (.bool q3)) _ _ (by simp [ae,e25,e27,e29] <;> rfl) (kX (bT hf.out.1 hE) (kE (kD (kC (kB (kX (fun _ _=>rfl) (kX (nU (hn 31 rfl)) (kX (nU (hn 32 rfl)) (kX (nU (hn 33 rfl)) (kX (nU (hn 34 rfl)) (kX (nU (hn 35 rfl)) (kX (nU (hn 36 rfl)) (kX (nU (hn 37 rfl)) (fun _=>nU (hn 38 rfl)))))))))))))) hf.out)
    | false =>
     rw [hG] at e25
     go_simp
     refine hK.out (upd s 50 (undef)) _ _ (by simp [ae,e25] <;> rfl) (kE (kD (kC (kB (kA (kX (fun _ h=>Bool.noConfusion (h.symm.trans hG)) id))))) hf.out)
   ·have e25:=((jD (jE hf.out)).2.2.1 (hd 25 rfl))
    cases hG:(((q0 && q1) && q2)) with
    | true =>
     rw [hG] at e25
     have e30:=((jC (jD (jE hf.out))).2.2.2.1 (hd 30 rfl)) hG
     go_simp
     refine hK.out (upd s 51 (.bool (!q3))) _ _ (by simp [ae,e25,e30] <;> rfl) (kE (kE (kX (fun _ _=>rfl) id)) hf.out)
    | false =>
     rw [hG] at e25
     go_simp
     refine hK.out (upd s 51 (undef)) _ _ (by simp [ae,e25] <;> rfl) (kE (kE (kX (fun _ h=>Bool.noConfusion (h.symm.trans hG)) id)) hf.out)
   ·have e25:=((jD (jE hf.out)).2.2.1 (hd 25 rfl))
    have e31:=((jE (jE hf.out)).1 (hd 31 rfl))
    cases hG:(((q0 && q1) && q2)) with
    | true =>
     rw [hG] at e25
     replace e31:=e31 hG
     go_simp
     refine hK.out (upd s 52 (.bool (!q3))) _ _ (by simp [ae,e25,e31] <;> rfl) (kE (kE (kA (kX (fun _=>by rw [show (upd s 52 (.bool (!q3))) 52=.bool (!q3) from rfl];exact Ei hG) id))) hf.out)
    | false =>
     clear e31
     rw [hG] at e25
     go_simp
     refine hK.out (upd s 52 (.bool true)) _ _ (by simp [ae,e25] <;> rfl) (kE (kE (kA (kX (fun _=>by rw [show (upd s 52 (.bool true)) 52=.bool true from rfl];exact Ej hG) id))) hf.out)
   ·have e32:=((jE (jE hf.out)).2.1 (hd 32 rfl))
    go_simp
    refine hK.out (upd s 53 (.bool (!(((q0 && q1) && q2) && q3)))) _ _ (by simp [ae,e32] <;> rfl) (kE (kE (kB (kX (fun _=>rfl) id))) hf.out)
   ·have e33:=((jE (jE hf.out)).2.2.1 (hd 33 rfl))
    cases hG:((((q0 && q1) && q2) && q3)) with
    | true =>
     rw [hG] at e33
     go_simp
     refine hK.out (upd s 54 (.pointer (some ⟨wr.heap.size,6,none⟩))) _ _ (by simp [ae,e33] <;> rfl) (kE (kE (kB (kA (kX (fun _ _=>rfl) id)))) hf.out)
    | false =>
     rw [hG] at e33
     go_simp
     refine hK.out (upd s 54 (undef)) _ _ (by simp [ae,e33] <;> rfl) (kE (kE (kB (kA (kX (fun _ h=>Bool.noConfusion (h.symm.trans hG)) id)))) hf.out)
   ·have e33:=((jE (jE hf.out)).2.2.1 (hd 33 rfl))
    cases hG:((((q0 && q1) && q2) && q3)) with
    | true =>
     rw [hG] at e33
     have e34:=((jE (jE hf.out)).2.2.2.1 (hd 34 rfl)) hG
     have z:=(bO (fC CO hf.out.1)).1 6
     go_simp
     refine hK.out (upd s 55 (.int .i64 dd.out)) _ _ (by simp [ae,e33,e34] <;> rfl) (kE (kE (kC (kX (fun _ _=>rfl) id))) hf.out)
    | false =>
     rw [hG] at e33
     go_simp
     refine hK.out (upd s 55 (undef)) _ _ (by simp [ae,e33] <;> rfl) (kE (kE (kC (kX (fun _ h=>Bool.noConfusion (h.symm.trans hG)) id))) hf.out)
   ·have e33:=((jE (jE hf.out)).2.2.1 (hd 33 rfl))
    cases hG:((((q0 && q1) && q2) && q3)) with
    | true =>
     rw [hG] at e33
     have e35:=((jC (jE (jE hf.out))).1 (hd 35 rfl)) hG
     go_simp
     go_at_call 45
     refine (fM dd.out 999 _).mono ?_
     rintro _ _ ⟨rfl,rfl⟩
     rw [hq4.out]
     refine hK.out (upd s 56 (.bool q4)) _ _ (by simp [ae,e33,e35] <;> rfl) (kE (kE (kC (kA (kX (fun _ _=>rfl) id)))) hf.out)
    | false =>
     rw [hG] at e33
     go_simp
     refine hK.out (upd s 56 (undef)) _ _ (by simp [ae,e33] <;> rfl) (kE (kE (kC (kA (kX (fun _ h=>Bool.noConfusion (h.symm.trans hG)) id)))) hf.out)
   ·have e33:=((jE (jE hf.out)).2.2.1 (hd 33 rfl))
    cases hG:((((q0 && q1) && q2) && q3)) with
    | true =>
     rw [hG] at e33
     have e36:=((jC (jE (jE hf.out))).2.1 (hd 36 rfl)) hG
     go_simp
     refine hK.out (upd s 57 (.bool (!q4))) _ _ (by simp [ae,e33,e36] <;> rfl) (kE (kE (kC (kB (kX (fun _ _=>rfl) id)))) hf.out)
    | false =>
     rw [hG] at e33
     go_simp
     refine hK.out (upd s 57 (undef)) _ _ (by simp [ae,e33] <;> rfl) (kE (kE (kC (kB (kX (fun _ h=>Bool.noConfusion (h.symm.trans hG)) id)))) hf.out)
   ·have e33:=((jE (jE hf.out)).2.2.1 (hd 33 rfl))
    have e37:=((jC (jE (jE hf.out))).2.2.1 (hd 37 rfl))
    cases hG:((((q0 && q1) && q2) && q3)) with
    | true =>
     rw [hG] at e33
     replace e37:=e37 hG
     go_simp
     refine hK.out (upd s 58 (.bool (!q4))) _ _ (by simp [ae,e33,e37] <;> rfl) (kE (kE (kC (kB (kA (fun _=>fun _=>by rw [show (upd s 58 (.bool (!q4))) 58=.bool (!q4) from rfl];exact Ei hG))))) hf.out)
    | false =>
     clear e37
     rw [hG] at e33
     go_simp
     refine hK.out (upd s 58 (.bool true)) _ _ (by simp [ae,e33] <;> rfl) (kE (kE (kC (kB (kA (fun _=>fun _=>by rw [show (upd s 58 (.bool true)) 58=.bool true from rfl];exact Ej hG))))) hf.out)
  ·have:k=ds.length:=by omega
   subst this
   have h1:=hall.out
   rw [List.take_length] at h1
   go_wp2
   go_ret
   exact ⟨aZ h1.symm,hB⟩
end
section
open Go.RowKit
theorem I4:(Tryz.prog.info? 93).map (fun i=>(i.zero,i.size,i.bytes))=some (some (.agg #[.int .i64 0,.int .i64 0,.int .i64 0]),3,24):=by kernel_rfl
theorem KI (n:Nat) (h:n≤1048576) (W:World):(Instr.makeSlice 28 (.int .i64 n) (.int .i64 n)).run Tryz.prog W=.ok (.slice (some ⟨W.heap.size,0,none⟩) n n) (W.alloc (.cells (madeCells #[.int .i64 0,.int .i64 0,.int .i64 0] (n*3)) 93)):=by
 obtain ⟨i,hi,hz,hs,hb⟩:=info_parts I4
 have:=run_make (P:=Tryz.prog) W 28 93 i _ Tryz.underlying28 hi hz .i64 .i64 n n tO tO (by rw [hb];omega) tO
 rw [this,hs]
 simp [Value.cells]
theorem Ma (n:Nat) (h:n≤1048576) (W:World):(Instr.makeSlice 29 (.int .i64 n) (.int .i64 n)).run Tryz.prog W=.ok (.slice (some ⟨W.heap.size,0,none⟩) n n) (W.alloc (.cells (madeCells #[.int .i64 0] (n*1)) 2)):=by
 obtain ⟨i,hi,hz,hs,hb⟩:=info_parts jI
 have:=run_make (P:=Tryz.prog) W 29 2 i _ Tryz.underlying29 hi hz .i64 .i64 n n tO tO (by rw [hb];omega) tO
 rw [this,hs]
 simp [Value.cells]
end
section
open Go.RowKit
def qw (l:List Int) (k i _j:Nat):Value:=if i<k then .int .i64 (l.getD i 0) else .int .i64 0
theorem Row.set1 {w:World} {b:Nat} {t:TypeId} {n:Nat} {f:Nat→Nat→Value} (h:Row w b t n 1 f) {i:Nat} (hi:i<n) (v:Value) :
  Row (w.setCell ⟨b,i,none⟩ v) b t n 1 (fun i' j'=>if i'=i then v else f i' j'):=by
 have h1:=h.set hi (j:=0) tO v
 simp only [Nat.mul_one,Nat.add_zero] at h1
 refine h1.congr fun i' j' _ hj=>?_
 have:j'=0:=by omega
 subst this
 by_cases e:i'=i <;> simp [e]
theorem CQ {l:List Int} {k:Nat} {x:Int} (h:l.getD k 0=x) (i j:Nat):(if i=k then Value.int .i64 x else qw l k i j)=qw l (k+1) i j:=by
 unfold qw
 by_cases e:i=k
 ·subst e;rw [if_pos rfl,if_pos tO,h]
 ·rw [if_neg e]
  by_cases e2:i<k
  ·rw [if_pos e2,if_pos tO]
  ·rw [if_neg e2,if_neg tO]
theorem Fy (l:List Int):∀ i j,i<l.length→j<1→qw l l.length i j=fP l i j:=fun i j hi _=>by simp [qw,fP,hi]
theorem xB (l:List Int) (a:Option Addr) (cap:Nat) (w:World) (h:eZ w w.heap.size a l) (hm:l.length≤1048576) :
  Calls Tryz.prog 139 #[.slice a l.length cap] w fun r w'=>r=.returned (.slice (some ⟨w.heap.size,0,none⟩) l.length l.length)∧Row w' w.heap.size 2 l.length 1 (fP l)∧Below w.heap.size w w':=by
 have HS:=Lib.hid h
 clear h
 have hmk:=Ma l.length hm
 have hR0:=(Row.made w #[.int .i64 0] l.length 2).congr (g:=qw l 0) (fun i j _ hj=>by
  have:j=0:=by simp at hj;omega
  subst this;simp [qw])
 go_enter Tryz.func139,Tryz.ntmps139
 go_wp2
 go_loopw [4] (fun i wr=>∃ k:Nat,k≤l.length∧i=.int .i64 k∧Row wr w.heap.size 2 l.length 1 (qw l k)∧Below w.heap.size w wr) (fun i _=>l.length - (intOf i).toNat)
 case atStart=>exact ⟨0,Nat.zero_le _,rfl,by simpa using hR0,(Below.refl _ _).alloc (Nat.le_refl _) _⟩
 case round =>
  obtain ⟨k,hk,rfl,hR,hB⟩:=hrel
  have hs:=hB.size
  have hl:=hR.lt
  by_cases hlt:k<l.length
  ·obtain h0|⟨b,o,rfl,hb,hc⟩:=HS.out
   ·omega
   have c0:=(hB.cell (p:=⟨b,o+k*1+0,none⟩) hb).trans (hc k 0 hlt tO)
   simp only [fP,Nat.add_zero,Nat.mul_one] at c0
   clear hc
   generalize hcg:l.getD k 0=x at c0
   have HC:=Lib.hid hcg
   clear hcg
   have e0:=hR.cell hlt (show 0<1 by omega)
   simp only [Nat.add_zero,Nat.mul_one] at e0
   have f1:=hR.frozen
   go_wp2
   go_roundw
   case rel=>exact ⟨k+1,by omega,by go_num,(hR.set1 hlt (.int .i64 x)).congr (fun i j _ _=>CQ HC.out i j),by exact zB⟩
   case measure=>simp [intOf];omega
  ·have:k=l.length:=by omega
   subst this
   go_wp2
   go_ret
   exact ⟨rfl,hR.congr (Fy l),hB⟩
theorem OX {w W:World} (h:Below w.heap.size w W) (n:Nat):Below w.heap.size w (W.drewN n):=⟨h.os,h.tape,h.output,h.size,h.block⟩
theorem jU (l:List Int) (a a':Option Addr) (cap cap':Nat) (w:World) (h:eZ w w.heap.size a l) (h':Seg w w.heap.size a' l.length 1 (fP l)) (hm:l.length≤1048576) :
  Calls Tryz.prog 40 #[.slice a l.length cap,.slice a' l.length cap'] w fun r w'=>r=.returned (.bool true)∧Below w.heap.size w w':=by
 have HS:=Lib.hid h
 have Mc:=Lib.hid h'
 clear h h'
 go_enter Tryz.func40,Tryz.ntmps40
 go_wp2
 go_loopw [5] (fun i wr=>∃ k:Nat,k≤l.length∧i=.int .i64 k∧Below w.heap.size w wr) (fun i _=>l.length - (intOf i).toNat)
 case atStart=>exact ⟨0,Nat.zero_le _,rfl,Below.refl _ _⟩
 case round =>
  obtain ⟨k,hk,rfl,hB⟩:=hrel
  by_cases hlt:k<l.length
  ·obtain h0|⟨b,o,rfl,hb,hc⟩:=HS.out
   ·omega
   obtain h0|⟨b',o',rfl,hb',hc'⟩:=Mc.out
   ·omega
   have c0:=(hB.cell (p:=⟨b,o+k*1+0,none⟩) hb).trans (hc k 0 hlt tO)
   have d0:=(hB.cell (p:=⟨b',o'+k*1+0,none⟩) hb').trans (hc' k 0 hlt tO)
   simp only [fP,Nat.add_zero,Nat.mul_one] at c0 d0
   clear hc hc'
   generalize l.getD k 0=x at c0 d0
   have hk0:(0:Int)≤(k:Int):=by omega
   have hk1:(k:Int)<(l.length:Int):=by omega
   go_wp2_with fail
   go_quiet (fail)
   go_wp2
   go_roundw
   case rel=>exact ⟨k+1,by omega,by go_num,OX hB _⟩
   case measure=>simp [intOf];omega
  ·have:k=l.length:=by omega
   subst this
   go_wp2
   go_ret
   exact ⟨rfl,hB⟩
theorem oQ (n:Nat) (a:Option Addr) (cap:Nat) (left:Int) (w:World) (h0:0≤left) (h1:left≤1048576) (hm:n≤maxLen) :
  Calls Tryz.prog 137 #[.slice a n cap,.int .i64 left] w fun r w'=>r=.returned (.int .i64 (if left<n then -1 else left - n))∧w=w':=by
 unfold maxLen at hm
 by_cases h:left<n
 ·have hn:left - n<0:=by omega
  rw [if_pos h]
  clear h
  go_enter Tryz.func137,Tryz.ntmps137
  go_wp2
  go_ret
  exact ⟨rfl,rfl⟩
 ·have hn:¬ left - n<0:=by omega
  rw [if_neg h]
  go_enter Tryz.func137,Tryz.ntmps137
  go_wp2
  go_ret
  exact ⟨rfl,rfl⟩
end
section
open Go.RowKit
theorem CR (s e t:Int) (w:World):Calls Tryz.prog 177 #[.agg #[.int .i64 s,.int .i64 e,.int .i64 t]] w fun r w'=>r=.returned (.agg #[.int .i64 s,.int .i64 e,.int .i64 t])∧Below w.heap.size w w':=by
 go_enter Tryz.func177,Tryz.ntmps177
 go_wp2
 exact bodyPost_ret (v:=.agg #[.int .i64 s,.int .i64 e,.int .i64 t]) (by simp [results,Tryz.results177,go_sem]) rfl ⟨rfl,by exact zB⟩
theorem CS (s e t s' e' t':Int) (w:World):Calls Tryz.prog 179 #[.agg #[.int .i64 s,.int .i64 e,.int .i64 t],.agg #[.int .i64 s',.int .i64 e',.int .i64 t']] w fun r w'=>r=.returned (.bool (Ob s e t s' e' t'))∧Below w.heap.size w w':=by
 go_enter Tryz.func179,Tryz.ntmps179
 go_wp2
 all_goals go_ret
 all_goals refine ⟨aZ ?_,by exact zB⟩
 all_goals unfold Ob
 all_goals repeat (rw [MX ‹_›])
 all_goals first|exact MW ‹_›|rfl
theorem Ae (cs:List C3) (a:Option Addr) (cap:Nat) (w:World) (h:eY w w.heap.size a cs) (hm:cs.length≤1048576) :
  Calls Tryz.prog 138 #[.slice a cs.length cap] w fun r w'=>r=.returned (.slice (some ⟨w.heap.size,0,none⟩) cs.length cs.length)∧Row w' w.heap.size 93 cs.length 3 (eT cs)∧Below w.heap.size w w':=by
 have HS:=Lib.hid h
 clear h
 have hmk:=KI cs.length hm
 have hR0:=(Row.made w #[.int .i64 0,.int .i64 0,.int .i64 0] cs.length 93).congr (g:=pV cs 0) (fun i j _ hj=>by
  have:j=0∨j=1∨j=2:=by simp at hj;omega
  rcases this with rfl|rfl|rfl <;> simp [pV])
 go_enter Tryz.func138,Tryz.ntmps138
 go_wp2
 go_loopw [4] (fun i wr=>∃ k:Nat,k≤cs.length∧i=.int .i64 k∧Row wr w.heap.size 93 cs.length 3 (pV cs k)∧Below w.heap.size w wr) (fun i _=>cs.length - (intOf i).toNat)
 case atStart=>exact ⟨0,Nat.zero_le _,rfl,hR0,(Below.refl _ _).alloc (Nat.le_refl _) _⟩
 case round =>
  obtain ⟨k,hk,rfl,hR,hB⟩:=hrel
  have hs:=hB.size
  have hl:=hR.lt
  by_cases hlt:k<cs.length
  ·obtain h0|⟨b,o,rfl,hb,hc⟩:=HS.out
   ·omega
   have c0:=(hB.cell (p:=⟨b,o+k*3+0,none⟩) hb).trans (hc k 0 hlt tO)
   have c1:=(hB.cell (p:=⟨b,o+k*3+1,none⟩) hb).trans (hc k 1 hlt tO)
   have c2:=(hB.cell (p:=⟨b,o+k*3+2,none⟩) hb).trans (hc k 2 hlt tO)
   simp only [eT,C3.val,Nat.add_zero] at c0 c1 c2
   clear hc
   generalize hcg:cs.getD k ⟨0,0,0⟩=c at c0 c1 c2
   have HC:=Lib.hid hcg
   clear hcg
   go_wp2_with ((go_at_call 177;refine (CR _ _ _ _).mono ?_;rintro _ w1 ⟨rfl,ag⟩;have hBw1:Below w.heap.size w w1:=bT zB ag;have ak:=ag.size;(try (simp at ak)));have tC:=hR.below ag hl;have e0:=tC.cell hlt (show 0<3 by omega);have e1:=tC.cell hlt (show 1<3 by omega);have e2:=tC.cell hlt (show 2<3 by omega);simp only [Nat.add_zero] at e0;have f1:=tC.frozen)
   go_roundw
   case rel=>exact ⟨k+1,by omega,by go_num,(tC.set3 hlt c.val).congr (fun i j _ _=>Ev HC.out i j),by exact zB⟩
   case measure=>simp [intOf];omega
  ·have:k=cs.length:=by omega
   subst this
   go_wp2
   go_ret
   exact ⟨rfl,hR.congr (Gp cs),hB⟩
theorem Af (cs:List C3) (a a':Option Addr) (cap cap':Nat) (w:World) (h:eY w w.heap.size a cs) (h':Seg w w.heap.size a' cs.length 3 (eT cs)) (hm:cs.length≤1048576) :
  Calls Tryz.prog 142 #[.slice a cs.length cap,.slice a' cs.length cap'] w fun r w'=>r=.returned (.bool true)∧Below w.heap.size w w':=by
 have HS:=Lib.hid h
 have Mc:=Lib.hid h'
 clear h h'
 go_enter Tryz.func142,Tryz.ntmps142
 go_wp2
 go_loopw [5] (fun i wr=>∃ k:Nat,k≤cs.length∧i=.int .i64 k∧Below w.heap.size w wr) (fun i _=>cs.length - (intOf i).toNat)
 case atStart=>exact ⟨0,Nat.zero_le _,rfl,Below.refl _ _⟩
 case round =>
  obtain ⟨k,hk,rfl,hB⟩:=hrel
  have hs:=hB.size
  by_cases hlt:k<cs.length
  ·obtain h0|⟨b,o,rfl,hb,hc⟩:=HS.out
   ·omega
   obtain h0|⟨b',o',rfl,hb',hc'⟩:=Mc.out
   ·omega
   have c0:=(hB.cell (p:=⟨b,o+k*3+0,none⟩) hb).trans (hc k 0 hlt tO)
   have c1:=(hB.cell (p:=⟨b,o+k*3+1,none⟩) hb).trans (hc k 1 hlt tO)
   have c2:=(hB.cell (p:=⟨b,o+k*3+2,none⟩) hb).trans (hc k 2 hlt tO)
   have d0:=(hB.cell (p:=⟨b',o'+k*3+0,none⟩) hb').trans (hc' k 0 hlt tO)
   have d1:=(hB.cell (p:=⟨b',o'+k*3+1,none⟩) hb').trans (hc' k 1 hlt tO)
   have d2:=(hB.cell (p:=⟨b',o'+k*3+2,none⟩) hb').trans (hc' k 2 hlt tO)
   simp only [eT,C3.val,Nat.add_zero] at c0 c1 c2 d0 d1 d2
   clear hc hc'
   generalize hcg:cs.getD k ⟨0,0,0⟩=c at c0 c1 c2 d0 d1 d2
   have HC:=Lib.hid hcg
   clear hcg
   have hk0:(0:Int)≤(k:Int):=by omega
   have hk1:(k:Int)<(cs.length:Int):=by omega
   go_wp2_with fail
   go_still_tail 8,(by kernel_rfl)
   go_wp2_with (go_at_call 179;refine (CS _ _ _ _ _ _ _).mono ?_;rintro _ w1 ⟨rfl,ag⟩;have hBw1:Below w.heap.size w w1:=bT zB ag;have ak:=ag.size;(try (simp at ak)))
   ·rename_i hq
    rw [Gj] at hq
    simp at hq
   ·go_roundw
    case rel=>exact ⟨k+1,by omega,by go_num,by exact zB⟩
    case measure=>simp [intOf];omega
  ·have:k=cs.length:=by omega
   subst this
   go_wp2
   go_ret
   exact ⟨rfl,hB⟩
theorem mW (n:Nat) (a:Option Addr) (cap:Nat) (left:Int) (w:World) (h0:0≤left) (h1:left≤1048576) (hm:n≤maxLen) :
  Calls Tryz.prog 136 #[.slice a n cap,.int .i64 left] w fun r w'=>r=.returned (.int .i64 (if left<n then -1 else left - n))∧w=w':=by
 unfold maxLen at hm
 by_cases h:left<n
 ·have hn:left - n<0:=by omega
  rw [if_pos h]
  clear h
  go_enter Tryz.func136,Tryz.ntmps136
  go_wp2
  go_ret
  exact ⟨rfl,rfl⟩
 ·have hn:¬ left - n<0:=by omega
  rw [if_neg h]
  go_enter Tryz.func136,Tryz.ntmps136
  go_wp2
  go_ret
  exact ⟨rfl,rfl⟩
end
end Go.Proofs.YtffhjmepfojhnaaGreat
