import Derived.Test.YtmapdpcfanecdabGreatDoorM06
open Go.Ending renaming returned→Rt
open Go.IntKind renaming i64→Y
open Go.Obj renaming cells→Cc
open Go.Proofs.Tryz renaming prog→pG
open Go.Value renaming bool→Bb,int→I,tuple→Tu
open Option renaming none→nO,some→sO
set_option linter.unusedSimpArgs false
set_option linter.unusedVariables false
set_option maxHeartbeats 2000000
set_option maxRecDepth 100000
namespace Go.Proofs.YtmapdpcfanecdabGreatDoor
section
open Go.RowKit
abbrev w3 (s t r:Sp)(w:World):World:=((w.alloc (Cc #[Bb s.n,I Y s.lo,I Y s.hi] 89)).alloc (Cc #[Bb t.n,I Y t.lo,I Y t.hi] 89)).alloc (Cc #[Bb r.n,I Y r.lo,I Y r.hi] 89)

theorem eE {B:Nat}{s t r:Sp}{w w1:World}(hb:Below B (w3 s t r w) w1)(hB:w.heap.size+2 < B):(w1.cell? ⟨w.heap.size,0,nO⟩=sO (Bb s.n)∧w1.cell? ⟨w.heap.size,1,nO⟩=sO (I Y s.lo)∧w1.cell? ⟨w.heap.size,2,nO⟩=sO (I Y s.hi))∧(w1.cell? ⟨w.heap.size+1,0,nO⟩=sO (Bb t.n)∧w1.cell? ⟨w.heap.size+1,1,nO⟩=sO (I Y t.lo)∧w1.cell? ⟨w.heap.size+1,2,nO⟩=sO (I Y t.hi))∧(w1.cell? ⟨w.heap.size+1+1,0,nO⟩=sO (Bb r.n)∧w1.cell? ⟨w.heap.size+1+1,1,nO⟩=sO (I Y r.lo)∧w1.cell? ⟨w.heap.size+1+1,2,nO⟩=sO (I Y r.hi))∧(w1.frozen? ⟨w.heap.size+1+1,0,nO⟩=false∧w1.frozen? ⟨w.heap.size+1+1,1,nO⟩=false∧w1.frozen? ⟨w.heap.size+1+1,2,nO⟩=false)∧(w.heap.size < w1.heap.size∧w.heap.size+1 < w1.heap.size∧w.heap.size+1+1 < w1.heap.size):=by
 have hs:=hb.size
 rw[hb.cell (by simp;omega),hb.cell (by simp;omega),hb.cell (by simp;omega),hb.cell (by simp;omega),hb.cell (by simp;omega),hb.cell (by simp;omega),hb.cell (by simp;omega),hb.cell (by simp;omega),hb.cell (by simp;omega),hb.frozen (by simp;omega),hb.frozen (by simp;omega),hb.frozen (by simp;omega)]
 simp[go_sem] at hs ⊢
 omega

theorem eF (s t r:Sp)(w:World):Below w.heap.size w (w3 s t r w):=by go_grown

theorem oK {lo hi lo' hi' a b:Int}(ha:a=min lo lo')(hb:b=max hi hi'):bq ⟨false,lo,hi⟩ ⟨false,lo',hi'⟩=⟨false,a,b⟩:=by
 subst ha hb
 rfl

theorem D3 (s t:Sp)(w:World):
  Calls pG 183 #[sv s,sv t] w λe w'=>e=Rt (sv (bB s t))∧Below w.heap.size w w':=by
 obtain⟨n,lo,hi⟩:=s
 obtain⟨n',lo',hi'⟩:=t
 go_enter Tryz.func183,Tryz.ntmps183
 go_wp2_with (go_at_call 182;fail)
 refine(wX ⟨n,lo,hi⟩ ⟨n',lo',hi'⟩ _).mono ?_
 rintro e w1 ⟨rfl,hb1⟩
 obtain⟨⟨c0,c1,c2⟩,⟨d0,d1,d2⟩,⟨r0,r1,r2⟩,⟨f0,f1,f2⟩,z0,z1,z2⟩:=eE (s:=⟨n,lo,hi⟩) (t:=⟨n',lo',hi'⟩) (r:=bA) hb1 (by simp)
 have H1:Below w.heap.size w w1:=(eF ⟨n,lo,hi⟩ ⟨n',lo',hi'⟩ bA w).trans (hb1.mono (by simp;omega))
 clear hb1
 simp only[bA] at r0 r1 r2
 cases n with
 |true=>
  have e0:bq ⟨true,lo,hi⟩ ⟨n',lo',hi'⟩=⟨n',lo',hi'⟩:=rfl
  rw[e0]
  go_wp2
  refine bodyPost_ret (v:=sv ⟨n',lo',hi'⟩) (by simp[results,Tryz.results183,go_sem,r0,r1,r2,z2]) rfl ⟨rfl,?_⟩
  exact(((H1.setCell (by simp;omega) _).setCell (by simp;omega) _).setCell (by simp;omega) _).alloc (by simp;omega) _
 |false=>
  cases n' with
  |true=>
   have e0:bq ⟨false,lo,hi⟩ ⟨true,lo',hi'⟩=⟨false,lo,hi⟩:=rfl
   rw[e0]
   go_wp2
   refine bodyPost_ret (v:=sv ⟨false,lo,hi⟩) (by simp[results,Tryz.results183,go_sem,r0,r1,r2,z2]) rfl ⟨rfl,?_⟩
   exact(((H1.setCell (by simp;omega) _).setCell (by simp;omega) _).setCell (by simp;omega) _).alloc (by simp;omega) _
  |false=>
  rcases Int.lt_or_le lo' lo with h1|h1<;>rcases Int.lt_or_le hi hi' with h2|h2
  ·have e0:bq ⟨false,lo,hi⟩ ⟨false,lo',hi'⟩=⟨false,lo',hi'⟩:=oK (by omega) (by omega)
   rw[e0]
   go_wp2
   refine bodyPost_ret (v:=sv ⟨false,-2147483648,2147483647⟩) (by simp[results,Tryz.results183,go_sem,r0,r1,r2,z2]) rfl ⟨?_,?_⟩
   ·exact iu (by simp[bB]<;>omega)
   ·exact(((H1.setCell (by simp;omega) _).setCell (by simp;omega) _).setCell (by simp;omega) _).alloc (by simp;omega) _
  ·have e0:bq ⟨false,lo,hi⟩ ⟨false,lo',hi'⟩=⟨false,lo',hi⟩:=oK (by omega) (by omega)
   rw[e0]
   go_wp2
   refine bodyPost_ret (v:=sv ⟨false,-2147483648,hi⟩) (by simp[results,Tryz.results183,go_sem,r0,r1,r2,z2]) rfl ⟨?_,?_⟩
   ·exact iu (by simp[bB]<;>omega)
   ·exact(((H1.setCell (by simp;omega) _).setCell (by simp;omega) _).setCell (by simp;omega) _).alloc (by simp;omega) _
  ·have e0:bq ⟨false,lo,hi⟩ ⟨false,lo',hi'⟩=⟨false,lo,hi'⟩:=oK (by omega) (by omega)
   rw[e0]
   go_wp2
   refine bodyPost_ret (v:=sv ⟨false,lo,2147483647⟩) (by simp[results,Tryz.results183,go_sem,r0,r1,r2,z2]) rfl ⟨?_,?_⟩
   ·exact iu (by simp[bB]<;>omega)
   ·exact(((H1.setCell (by simp;omega) _).setCell (by simp;omega) _).setCell (by simp;omega) _).alloc (by simp;omega) _
  ·have e0:bq ⟨false,lo,hi⟩ ⟨false,lo',hi'⟩=⟨false,lo,hi⟩:=oK (by omega) (by omega)
   rw[e0]
   go_wp2
   refine bodyPost_ret (v:=sv ⟨false,lo,hi⟩) (by simp[results,Tryz.results183,go_sem,r0,r1,r2,z2]) rfl ⟨?_,?_⟩
   ·exact iu (by simp[bB]<;>omega)
   ·exact(((H1.setCell (by simp;omega) _).setCell (by simp;omega) _).setCell (by simp;omega) _).alloc (by simp;omega) _

theorem kY (F:Nat)(s t:Sp)(w:World)(h:br s t≠0):
  Calls pG 181 #[sv s,sv t,.func (.func F) #[] #[]] w λe w'=>e=Rt (Tu #[sv bA,I Y (br s t)])∧Below w.heap.size w w':=by
 obtain⟨n,lo,hi⟩:=s
 obtain⟨n',lo',hi'⟩:=t
 go_enter Tryz.func181,Tryz.ntmps181
 go_wp2_with (go_at_call 219;fail)
 refine(dR ⟨n,lo,hi⟩ ⟨n',lo',hi'⟩ _).mono ?_
 rintro e w1 ⟨rfl,hb1⟩
 obtain⟨⟨c0,c1,c2⟩,⟨d0,d1,d2⟩,⟨r0,r1,r2⟩,⟨f0,f1,f2⟩,z0,z1,z2⟩:=eE (s:=⟨n,lo,hi⟩) (t:=⟨n',lo',hi'⟩) (r:=bA) hb1 (by simp)
 have H1:Below w.heap.size w w1:=(eF ⟨n,lo,hi⟩ ⟨n',lo',hi'⟩ bA w).trans (hb1.mono (by simp;omega))
 clear hb1
 simp only[bA] at r0 r1 r2
 go_wp2
 refine bodyPost_ret (v:=Tu #[sv bA,I Y (br ⟨n,lo,hi⟩ ⟨n',lo',hi'⟩)]) (by simp[results,Tryz.results181,go_sem,r0,r1,r2,bA]) rfl ⟨rfl,?_⟩
 exact((H1.setCell (by simp;omega) _).setCell (by simp;omega) _).setCell (by simp;omega) _

theorem mN {p:Prop}(h:p:=by
 obtain⟨rn,rlo,rhi⟩:=r
 go_wp2
 refine bodyPost_ret (v:=.tuple #[sv ⟨rn,rlo,rhi⟩,.int .i64 0]) (by simp[results,Tryz.results181,go_sem,g0,g1,g2]) rfl ⟨by rw[hr],?_⟩
 exact((H2.setCell (by simp;omega) _).setCell (by simp;omega) _).setCell (by simp;omega) _):p:=h
theorem uV (s t:Sp)(w:World)(h:br s t=0):
  Calls pG 181 #[sv s,sv t,.func (.func 182) #[] #[]] w λe w'=>e=Rt (Tu #[sv (bq s t),I Y 0])∧Below w.heap.size w w':=by
 obtain⟨n,lo,hi⟩:=s
 obtain⟨n',lo',hi'⟩:=t
 go_enter Tryz.func181,Tryz.ntmps181
 go_wp2_with (go_at_call 219;fail)
 refine(dR ⟨n,lo,hi⟩ ⟨n',lo',hi'⟩ _).mono ?_
 rintro e w1 ⟨rfl,hb1⟩
 obtain⟨⟨c0,c1,c2⟩,⟨d0,d1,d2⟩,⟨r0,r1,r2⟩,⟨f0,f1,f2⟩,z0,z1,z2⟩:=eE (s:=⟨n,lo,hi⟩) (t:=⟨n',lo',hi'⟩) (r:=bA) hb1 (by simp)
 have H1:Below w.heap.size w w1:=(eF ⟨n,lo,hi⟩ ⟨n',lo',hi'⟩ bA w).trans (hb1.mono (by simp;omega))
 rw[h]
 simp only[bA] at r0 r1 r2
 clear hb1
 go_wp2_with (go_at_call 182;fail)
 refine(wX ⟨n,lo,hi⟩ ⟨n',lo',hi'⟩ _).mono ?_
 rintro e w2 ⟨rfl,hb2⟩
 have g0:=r0;have g1:=r1;have g2:=r2;have k0:=f0;have k1:=f1;have k2:=f2
 rw[←hb2.cell z2] at g0 g1 g2
 rw[←hb2.frozen z2] at k0 k1 k2
 have H2:Below w.heap.size w w2:=H1.trans (hb2.mono (by omega))
 clear r0 r1 r2 f0 f1 f2 hb2 c0 c1 c2 d0 d1 d2
 generalize hr:bq ⟨n,lo,hi⟩ ⟨n',lo',hi'⟩=r
 exact mN

theorem vg (s t:Sp)(w:World)(h:br s t=0):
  Calls pG 181 #[sv s,sv t,.func (.func 197) #[] #[]] w λe w'=>e=Rt (Tu #[sv (aR s t),I Y 0])∧Below w.heap.size w w':=by
 obtain⟨n,lo,hi⟩:=s
 obtain⟨n',lo',hi'⟩:=t
 go_enter Tryz.func181,Tryz.ntmps181
 go_wp2_with (go_at_call 219;fail)
 refine(dR ⟨n,lo,hi⟩ ⟨n',lo',hi'⟩ _).mono ?_
 rintro e w1 ⟨rfl,hb1⟩
 obtain⟨⟨c0,c1,c2⟩,⟨d0,d1,d2⟩,⟨r0,r1,r2⟩,⟨f0,f1,f2⟩,z0,z1,z2⟩:=eE (s:=⟨n,lo,hi⟩) (t:=⟨n',lo',hi'⟩) (r:=bA) hb1 (by simp)
 have H1:Below w.heap.size w w1:=(eF ⟨n,lo,hi⟩ ⟨n',lo',hi'⟩ bA w).trans (hb1.mono (by simp;omega))
 rw[h]
 simp only[bA] at r0 r1 r2
 clear hb1
 go_wp2_with (go_at_call 197;fail)
 refine(Ee ⟨n,lo,hi⟩ ⟨n',lo',hi'⟩ _).mono ?_
 rintro e w2 ⟨rfl,hb2⟩
 have g0:=r0;have g1:=r1;have g2:=r2;have k0:=f0;have k1:=f1;have k2:=f2
 rw[←hb2.cell z2] at g0 g1 g2
 rw[←hb2.frozen z2] at k0 k1 k2
 have H2:Below w.heap.size w w2:=H1.trans (hb2.mono (by omega))
 clear r0 r1 r2 f0 f1 f2 hb2 c0 c1 c2 d0 d1 d2
 generalize hr:aR ⟨n,lo,hi⟩ ⟨n',lo',hi'⟩=r
 exact mN

theorem tq (s t:Sp)(w:World)(h:br s t=0):
  Calls pG 181 #[sv s,sv t,.func (.func 183) #[] #[]] w λe w'=>e=Rt (Tu #[sv (bB s t),I Y 0])∧Below w.heap.size w w':=by
 obtain⟨n,lo,hi⟩:=s
 obtain⟨n',lo',hi'⟩:=t
 go_enter Tryz.func181,Tryz.ntmps181
 go_wp2_with (go_at_call 219;fail)
 refine(dR ⟨n,lo,hi⟩ ⟨n',lo',hi'⟩ _).mono ?_
 rintro e w1 ⟨rfl,hb1⟩
 obtain⟨⟨c0,c1,c2⟩,⟨d0,d1,d2⟩,⟨r0,r1,r2⟩,⟨f0,f1,f2⟩,z0,z1,z2⟩:=eE (s:=⟨n,lo,hi⟩) (t:=⟨n',lo',hi'⟩) (r:=bA) hb1 (by simp)
 have H1:Below w.heap.size w w1:=(eF ⟨n,lo,hi⟩ ⟨n',lo',hi'⟩ bA w).trans (hb1.mono (by simp;omega))
 rw[h]
 simp only[bA] at r0 r1 r2
 clear hb1
 go_wp2_with (go_at_call 183;fail)
 refine(D3 ⟨n,lo,hi⟩ ⟨n',lo',hi'⟩ _).mono ?_
 rintro e w2 ⟨rfl,hb2⟩
 have g0:=r0;have g1:=r1;have g2:=r2;have k0:=f0;have k1:=f1;have k2:=f2
 rw[←hb2.cell z2] at g0 g1 g2
 rw[←hb2.frozen z2] at k0 k1 k2
 have H2:Below w.heap.size w w2:=H1.trans (hb2.mono (by omega))
 clear r0 r1 r2 f0 f1 f2 hb2 c0 c1 c2 d0 d1 d2
 generalize hr:bB ⟨n,lo,hi⟩ ⟨n',lo',hi'⟩=r
 exact mN
end
end Go.Proofs.YtmapdpcfanecdabGreatDoor
