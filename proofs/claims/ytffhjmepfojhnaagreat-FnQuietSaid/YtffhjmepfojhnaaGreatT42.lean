/-
  What is done of an order, of the reference model; lists lie in memory and hold at most 2 ^ 40 elements.
-/
import Derived.Test.YtffhjmepfojhnaaGreatT39
import Derived.Test.YtffhjmepfojhnaaGreatT40
import Derived.Test.YtffhjmepfojhnaaGreatT19
set_option maxRecDepth 100000
set_option maxHeartbeats 4000000
set_option linter.unusedSimpArgs false
set_option linter.unusedVariables false
namespace Go.Proofs.YtffhjmepfojhnaaGreat
open _root_.Go.Proofs.Tryz
open Go.RowKit
attribute [local simp] dz
attribute [local go_sem ↓] dA dO dP jv bK
attribute [local go_sem] iG
theorem NQ (x:Wo) (who:Int) (a b d e:Option Addr) (p q r s lo:Nat) (w:World) (h:dG w lo (.slice a x.ch.cells p) (.slice b x.ch.words q) (.slice d x.hands r) (.slice e x.deals s) x) (F:eP x) (ht:bW x who=true) :
  Calls prog 135 #[oI x a b d e p q r s,.int .i64 who] w fun r w'=>ig w w' (bP x who).1 (.bool (bP x who).2) r:=by
 obtain ⟨G,t1,H,t2,I,K,J,L⟩:=h.segs;obtain ⟨M,N,O,R⟩:=iX F;exact uO x who a b d e p q r s w G t1 H t2 I K J L M N O R ht ⟨F.n0,F.n1⟩
theorem Ii (x:Wo) (most:Int) (a b d e:Option Addr) (p q r s lo:Nat) (w:World) (h:dG w lo (.slice a x.ch.cells p) (.slice b x.ch.words q) (.slice d x.hands r) (.slice e x.deals s) x) (H:eP x) (F:0≤most) (G:most≤20000) :
  Calls prog 36 #[oI x a b d e p q r s,.int .i64 most] w fun r w'=>ig w w' (setW x most).1 (.int .i64 (setW x most).2) r:=by
 obtain ⟨I,t1,J,t2,K,M,L,N⟩:=h.segs;obtain ⟨O,R,T,U⟩:=iX H;exact uP x most a b d e p q r s w I t1 J t2 K M L N O R T U ((eZ x).2 H) F G
theorem VO (x:Wo) (who M ee:Int) (a b d e:Option Addr) (p q r s lo:Nat) (w:World) (h:dG w lo (.slice a x.ch.cells p) (.slice b x.ch.words q) (.slice d x.hands r) (.slice e x.deals s) x) (R:eP x) (ht:bW x who=true) (hk:lW 1 who M ee=true) (y:Wo) (rv:Int) (hyv:asked x who M ee=(y,rv)) :
  Calls prog 80 #[oI x a b d e p q r s,.agg #[.int .i64 1,.int .i64 who,.int .i64 M,.int .i64 ee]] w fun r w'=>ig w w' y (.int .i64 rv) r:=by
 obtain ⟨V,t1,X,t2,Y,t3,Z,t4⟩:=h.segs;obtain ⟨y1,y2,y3,y4⟩:=iX R;have H1:=aA V;have H2:=aA X;have H3:=aA Y;have H4:=aA Z;have HO:=aA h;have hw:=(eZ x).2 R;have O:gP x.hands who=true:=ht;clear V X Y Z h;go_enter func80,ntmps80;go_wp2_with fail;refine aK w zB fun bb=>?_;refine (eY x a b d e p q r s _ (aT H1 bb) (aT H2 bb) (aT H3 bb) (aT H4 bb) y3 y4).mono ?_;rintro _ w1 ⟨rfl,F⟩;obtain ⟨T,J,zz⟩:=sG bb F (b:=w);(try simp at J);(try simp [go_sem] at zz);replace bX:=pq zz;clear zz F bb
 rw [hw];go_wp2_with fail;refine aK w zB fun bb=>?_;refine (oq 1 who M ee _).mono ?_;rintro _ w2 ⟨rfl,G⟩;obtain ⟨U,K,zz⟩:=sG bb G (b:=w);(try simp at K);(first|simp [go_sem,bX] at zz|simp [go_sem] at zz|skip);replace bX:=pq zz;clear zz G bb
 rw [hk];go_wp2_with fail;refine aK w zB fun bb=>?_;refine (iq x.ch x.hands x.now who _ _ _ _ _ _ _ _ _ _ _ y3 _).mono ?_;rintro _ w3 ⟨rfl,H⟩;obtain ⟨I,L,zz⟩:=sG bb H (b:=w);(try simp at L);(first|simp [go_sem,bX] at zz|simp [go_sem] at zz|skip);replace bX:=pq zz;clear zz H bb
 rw [O];have N:=HO.out.below I;have hY:=Dy x who M ee a b d e p q r s lo _ N R;exact UK
theorem VP (x:Wo) (who R ee:Int) (a b d e:Option Addr) (p q r s lo:Nat) (w:World) (h:dG w lo (.slice a x.ch.cells p) (.slice b x.ch.words q) (.slice d x.hands r) (.slice e x.deals s) x) (O:eP x) (ht:bW x who=true) (hk:lW 3 who R ee=true) (y:Wo) (rv:Int) (hyv:alone x who 20000=(y,rv)) :
  Calls prog 80 #[oI x a b d e p q r s,.agg #[.int .i64 3,.int .i64 who,.int .i64 R,.int .i64 ee]] w fun r w'=>ig w w' y (.int .i64 rv) r:=by
 obtain ⟨V,t1,X,t2,Y,t3,Z,t4⟩:=h.segs;obtain ⟨y1,y2,y3,y4⟩:=iX O;have H1:=aA V;have H2:=aA X;have H3:=aA Y;have H4:=aA Z;have HO:=aA h;have hw:=(eZ x).2 O;have N:gP x.hands who=true:=ht;clear V X Y Z h;go_enter func80,ntmps80;go_wp2_with fail;refine aK w zB fun bb=>?_;refine (eY x a b d e p q r s _ (aT H1 bb) (aT H2 bb) (aT H3 bb) (aT H4 bb) y3 y4).mono ?_;rintro _ w1 ⟨rfl,F⟩;obtain ⟨T,J,zz⟩:=sG bb F (b:=w);(try simp at J);(try simp [go_sem] at zz);replace bX:=pq zz;clear zz F bb
 rw [hw];go_wp2_with fail;refine aK w zB fun bb=>?_;refine (oq 3 who R ee _).mono ?_;rintro _ w2 ⟨rfl,G⟩;obtain ⟨U,K,zz⟩:=sG bb G (b:=w);(try simp at K);(first|simp [go_sem,bX] at zz|simp [go_sem] at zz|skip);replace bX:=pq zz;clear zz G bb
 rw [hk];go_wp2_with fail;refine aK w zB fun bb=>?_;refine (iq x.ch x.hands x.now who _ _ _ _ _ _ _ _ _ _ _ y3 _).mono ?_;rintro _ w3 ⟨rfl,H⟩;obtain ⟨I,L,zz⟩:=sG bb H (b:=w);(try simp at L);(first|simp [go_sem,bX] at zz|simp [go_sem] at zz|skip);replace bX:=pq zz;clear zz H bb
 rw [N];have M:=HO.out.below I;have hY:=xZ x who 20000 a b d e p q r s lo _ M O ht tO tO;exact UK
theorem VQ (x:Wo) (who R ee:Int) (a b d e:Option Addr) (p q r s lo:Nat) (w:World) (h:dG w lo (.slice a x.ch.cells p) (.slice b x.ch.words q) (.slice d x.hands r) (.slice e x.deals s) x) (O:eP x) (ht:bW x who=true) (hk:lW 5 who R ee=true) (y:Wo) (rv:Int) (hyv:setW x 20000=(y,rv)) :
  Calls prog 80 #[oI x a b d e p q r s,.agg #[.int .i64 5,.int .i64 who,.int .i64 R,.int .i64 ee]] w fun r w'=>ig w w' y (.int .i64 rv) r:=by
 obtain ⟨V,t1,X,t2,Y,t3,Z,t4⟩:=h.segs;obtain ⟨y1,y2,y3,y4⟩:=iX O;have H1:=aA V;have H2:=aA X;have H3:=aA Y;have H4:=aA Z;have HO:=aA h;have hw:=(eZ x).2 O;have N:gP x.hands who=true:=ht;clear V X Y Z h;go_enter func80,ntmps80;go_wp2_with fail;refine aK w zB fun bb=>?_;refine (eY x a b d e p q r s _ (aT H1 bb) (aT H2 bb) (aT H3 bb) (aT H4 bb) y3 y4).mono ?_;rintro _ w1 ⟨rfl,F⟩;obtain ⟨T,J,zz⟩:=sG bb F (b:=w);(try simp at J);(try simp [go_sem] at zz);replace bX:=pq zz;clear zz F bb
 rw [hw];go_wp2_with fail;refine aK w zB fun bb=>?_;refine (oq 5 who R ee _).mono ?_;rintro _ w2 ⟨rfl,G⟩;obtain ⟨U,K,zz⟩:=sG bb G (b:=w);(try simp at K);(first|simp [go_sem,bX] at zz|simp [go_sem] at zz|skip);replace bX:=pq zz;clear zz G bb
 rw [hk];go_wp2_with fail;refine aK w zB fun bb=>?_;refine (iq x.ch x.hands x.now who _ _ _ _ _ _ _ _ _ _ _ y3 _).mono ?_;rintro _ w3 ⟨rfl,H⟩;obtain ⟨I,L,zz⟩:=sG bb H (b:=w);(try simp at L);(first|simp [go_sem,bX] at zz|simp [go_sem] at zz|skip);replace bX:=pq zz;clear zz H bb
 rw [N];have M:=HO.out.below I;have hY:=Ii x 20000 a b d e p q r s lo _ M O tO tO;exact UK
theorem VR (x:Wo) (who R ee:Int) (a b d e:Option Addr) (p q r s lo:Nat) (w:World) (h:dG w lo (.slice a x.ch.cells p) (.slice b x.ch.words q) (.slice d x.hands r) (.slice e x.deals s) x) (O:eP x) (ht:bW x who=true) (hk:lW 4 who R ee=true) (y:Wo) (rv:Bool) (hyv:stopped x who=(y,rv)) :
  Calls prog 80 #[oI x a b d e p q r s,.agg #[.int .i64 4,.int .i64 who,.int .i64 R,.int .i64 ee]] w fun r w'=>ig w w' y (.int .i64 (CL rv)) r:=by
 obtain ⟨V,t1,X,t2,Y,t3,Z,t4⟩:=h.segs;obtain ⟨y1,y2,y3,y4⟩:=iX O;have H1:=aA V;have H2:=aA X;have H3:=aA Y;have H4:=aA Z;have HO:=aA h;have hw:=(eZ x).2 O;have N:gP x.hands who=true:=ht;clear V X Y Z h;go_enter func80,ntmps80;go_wp2_with fail;refine aK w zB fun bb=>?_;refine (eY x a b d e p q r s _ (aT H1 bb) (aT H2 bb) (aT H3 bb) (aT H4 bb) y3 y4).mono ?_;rintro _ w1 ⟨rfl,F⟩;obtain ⟨T,J,zz⟩:=sG bb F (b:=w);(try simp at J);(try simp [go_sem] at zz);replace bX:=pq zz;clear zz F bb
 rw [hw];go_wp2_with fail;refine aK w zB fun bb=>?_;refine (oq 4 who R ee _).mono ?_;rintro _ w2 ⟨rfl,G⟩;obtain ⟨U,K,zz⟩:=sG bb G (b:=w);(try simp at K);(first|simp [go_sem,bX] at zz|simp [go_sem] at zz|skip);replace bX:=pq zz;clear zz G bb
 rw [hk];go_wp2_with fail;refine aK w zB fun bb=>?_;refine (iq x.ch x.hands x.now who _ _ _ _ _ _ _ _ _ _ _ y3 _).mono ?_;rintro _ w3 ⟨rfl,H⟩;obtain ⟨I,L,zz⟩:=sG bb H (b:=w);(try simp at L);(first|simp [go_sem,bX] at zz|simp [go_sem] at zz|skip);replace bX:=pq zz;clear zz H bb
 rw [N];have M:=HO.out.below I;have hY:=yx x who a b d e p q r s lo _ M O;exact Uj
theorem VS (x:Wo) (who R ee:Int) (a b d e:Option Addr) (p q r s lo:Nat) (w:World) (h:dG w lo (.slice a x.ch.cells p) (.slice b x.ch.words q) (.slice d x.hands r) (.slice e x.deals s) x) (O:eP x) (ht:bW x who=true) (hk:lW 2 who R ee=true) (y:Wo) (rv:Bool) (hyv:bP x who=(y,rv)) :
  Calls prog 80 #[oI x a b d e p q r s,.agg #[.int .i64 2,.int .i64 who,.int .i64 R,.int .i64 ee]] w fun r w'=>ig w w' y (.int .i64 (CL rv)) r:=by
 obtain ⟨V,t1,X,t2,Y,t3,Z,t4⟩:=h.segs;obtain ⟨y1,y2,y3,y4⟩:=iX O;have H1:=aA V;have H2:=aA X;have H3:=aA Y;have H4:=aA Z;have HO:=aA h;have hw:=(eZ x).2 O;have N:gP x.hands who=true:=ht;clear V X Y Z h;go_enter func80,ntmps80;go_wp2_with fail;refine aK w zB fun bb=>?_;refine (eY x a b d e p q r s _ (aT H1 bb) (aT H2 bb) (aT H3 bb) (aT H4 bb) y3 y4).mono ?_;rintro _ w1 ⟨rfl,F⟩;obtain ⟨T,J,zz⟩:=sG bb F (b:=w);(try simp at J);(try simp [go_sem] at zz);replace bX:=pq zz;clear zz F bb
 rw [hw];go_wp2_with fail;refine aK w zB fun bb=>?_;refine (oq 2 who R ee _).mono ?_;rintro _ w2 ⟨rfl,G⟩;obtain ⟨U,K,zz⟩:=sG bb G (b:=w);(try simp at K);(first|simp [go_sem,bX] at zz|simp [go_sem] at zz|skip);replace bX:=pq zz;clear zz G bb
 rw [hk];go_wp2_with fail;refine aK w zB fun bb=>?_;refine (iq x.ch x.hands x.now who _ _ _ _ _ _ _ _ _ _ _ y3 _).mono ?_;rintro _ w3 ⟨rfl,H⟩;obtain ⟨I,L,zz⟩:=sG bb H (b:=w);(try simp at L);(first|simp [go_sem,bX] at zz|simp [go_sem] at zz|skip);replace bX:=pq zz;clear zz H bb
 rw [N];have M:=HO.out.below I;have hY:=NQ x who a b d e p q r s lo _ M O ht;exact Uj
theorem Ky {kd who k e:Int} (h:lW kd who k e=true):kd=1∨kd=2∨kd=3∨kd=4∨kd=5:=by
 unfold lW at h;by_cases h1:kd=1
 ·exact .inl h1
 ·by_cases h2:kd=2
  ·exact .inr (.inl h2)
  ·by_cases h3:kd=3
   ·exact .inr (.inr (.inl h3))
   ·by_cases F:kd=4
    ·exact .inr (.inr (.inr (.inl F)))
    ·by_cases G:kd=5
     ·exact .inr (.inr (.inr (.inr G)))
     ·simp [h1,h2,h3,F,G] at h
theorem TQ (x:Wo) (kd who F ee:Int) (a b d e:Option Addr) (p q r s lo:Nat) (w:World) (h:dG w lo (.slice a x.ch.cells p) (.slice b x.ch.words q) (.slice d x.hands r) (.slice e x.deals s) x) (H:eP x) (ht:bW x who=true) (G:lW kd who F ee=true) :
  Calls prog 80 #[oI x a b d e p q r s,.agg #[.int .i64 kd,.int .i64 who,.int .i64 F,.int .i64 ee]] w fun r w'=>ig w w' (oJ x kd who F ee).1 (.int .i64 (oJ x kd who F ee).2) r:=by
 rcases Ky G with rfl|rfl|rfl|rfl|rfl
 ·exact VO x who F ee a b d e p q r s lo w h H ht G _ _ rfl
 ·exact VS x who F ee a b d e p q r s lo w h H ht G _ _ rfl
 ·exact VP x who F ee a b d e p q r s lo w h H ht G _ _ rfl
 ·exact VR x who F ee a b d e p q r s lo w h H ht G _ _ rfl
 ·exact VQ x who F ee a b d e p q r s lo w h H ht G _ _ rfl
end Go.Proofs.YtffhjmepfojhnaaGreat
