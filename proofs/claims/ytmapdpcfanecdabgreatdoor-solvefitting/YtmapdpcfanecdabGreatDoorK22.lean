import Derived.Test.YtmapdpcfanecdabGreatDoorK21
import Derived.Test.YtmapdpcfanecdabGreatDoorK13
import Derived.Lib.SliceRun
open Go.Ending renaming returned→Rt
open Go.IntKind renaming i64→Y
open Go.Obj renaming cells→Cc
open Go.Proofs.Tryz renaming prog→pG
open Go.RowKit.Below renaming heap_setCell→hSe,refl→bR
open Go.Value renaming agg→Ag,bool→Bb,int→I,ownBlock→j9,pointer→Pp,slice→U,slice→j7,string→q7,tuple→Tu
open Go.World renaming cell?_of_block→j5,cell?_setCell_other→q9,frozen?_setCell→x8,ownsRow_made→x7,ownsRow_nil→x6,setCell→j6,size_alloc→j3
open Int renaming eq_ofNat_of_zero_le→j1,toNat_natCast→j0
open List renaming eq_nil_of_length_eq_zero→z6,getElem_mem→gM,getElem_of_mem→J7,length_nil→J8,map_append→z7,map_cons→z8,map_nil→z9,mem_append→x9,mem_cons→j4,mem_map→J6,nil_append→J9,not_mem_nil→J4,pairwise_cons→q8
open Nat renaming le_refl→lR,le_trans→lT,lt_irrefl→J5,lt_of_lt_of_le→lL,zero_add→q6,zero_le→j8
open Option renaming isSome_iff_exists→j2,none→nO,some→sO
set_option linter.unusedSimpArgs false
set_option linter.unusedVariables false
set_option maxHeartbeats 16000000
set_option maxRecDepth 100000
namespace Go.Proofs.YtmapdpcfanecdabGreatDoor
section
open Go.RowKit
abbrev bJ (w:World)(V F:Int)(s:Option Addr)(c:List Ins)(cap:Nat)(g:Gs)(ss:Option Addr)(gc:Nat)(h:Gs)(st:Option Addr)(hc:Nat):World:=
 (((w.alloc (Cc #[I Y V,I Y F,U s c.length cap] 24)).alloc (Cc #[Bb g.n,Bb g.sp.n,I Y g.sp.lo,I Y g.sp.hi,Bb g.t,Bb g.f,U ss g.s.length gc] 91)).alloc (Cc #[Bb h.n,Bb h.sp.n,I Y h.sp.lo,I Y h.sp.hi,Bb h.t,Bb h.f,U st h.s.length hc] 91)).alloc (Cc #[Bb false,Bb false,I Y 0,I Y 0,Bb false,Bb false,U nO 0 0] 91)

def Fr7 (w:World)(b:Nat):Prop:=(∀j,w.frozen? ⟨b,j,nO⟩=false)∧b < w.heap.size
theorem Fr7.call {w w':World}{b:Nat}(h:Fr7 w b)(hb:Below w.heap.size w w'):Fr7 w' b:=
 ⟨λj=>by rw[hb.frozen (by simpa using h.2)];exact h.1 j,lL h.2 hb.size⟩

theorem Fr7.drew {w:World}{b:Nat}(h:Fr7 w b):Fr7 w.drew b:=h.call (bR _ _).drew
theorem Fr7.alloc {w:World}{b:Nat}(h:Fr7 w b)(o:Obj):Fr7 (w.alloc o) b:=h.call (Below.alloc (bR _ _) (lR _) o)

theorem dZ {V F:Int}{c:List Ins}{g h:Gs}(hk:aF V F c [g,h]=0):bo g.sp h.sp=0:=by
 unfold aF at hk
 split at hk
 ·have e:bX c [g,h]=if aw c g=0 then(if aw c h=0 then 0 else aw c h) else aw c g:=rfl
  have sp0:∀x,aw c x=0→de x.sp=0:=λx hx=>by
   unfold aw at hx
   split at hx
   ·assumption
   ·rename_i hn;exact Decidable.not_not.1 hn
  rw[e] at hk
  by_cases hg:aw c g=0
  ·rw[if_pos hg] at hk
   by_cases hh:aw c h=0
   ·exact ckSps_ok.2 ⟨ckSp_ok.1 (sp0 g hg),ckSp_ok.1 (sp0 h hh)⟩
   ·rw[if_neg hh] at hk;exact absurd hk hh
  ·rw[if_neg hg] at hk;exact absurd hk hg
 ·rename_i hn;exact absurd hk hn

theorem dX (w:World)(V F:Int)(s:Option Addr)(c:List Ins)(cap:Nat)(g:Gs)(ss:Option Addr)(gc:Nat)(h:Gs)(st:Option Addr)(hc:Nat):
  PrAt (bJ w V F s c cap g ss gc h st hc) w.heap.size V F s c cap∧GuAt (bJ w V F s c cap g ss gc h st hc) (w.heap.size+1) 0 g ss gc∧GuAt (bJ w V F s c cap g ss gc h st hc) (w.heap.size+1+1) 0 h st hc∧GuAt (bJ w V F s c cap g ss gc h st hc) (w.heap.size+1+1+1) 0 dF nO 0∧Fr7 (bJ w V F s c cap g ss gc h st hc) (w.heap.size+1+1+1):=by
 refine⟨?_,?_,?_,?_,?_⟩
 ·exact(((PrAt.new w V F s c cap).alloc _).alloc _).alloc _
 ·have:=GuAt.new (w.alloc (Cc #[I Y V,I Y F,U s c.length cap] 24)) g ss gc
  rw[j3] at this
  exact(this.alloc _).alloc _
 ·have:=GuAt.new ((w.alloc (Cc #[I Y V,I Y F,U s c.length cap] 24)).alloc (Cc #[Bb g.n,Bb g.sp.n,I Y g.sp.lo,I Y g.sp.hi,Bb g.t,Bb g.f,U ss g.s.length gc] 91)) h st hc
  simp only[j3] at this
  exact this.alloc _
 ·have:=GuAt.new (((w.alloc (Cc #[I Y V,I Y F,U s c.length cap] 24)).alloc (Cc #[Bb g.n,Bb g.sp.n,I Y g.sp.lo,I Y g.sp.hi,Bb g.t,Bb g.f,U ss g.s.length gc] 91)).alloc (Cc #[Bb h.n,Bb h.sp.n,I Y h.sp.lo,I Y h.sp.hi,Bb h.t,Bb h.f,U st h.s.length hc] 91)) dF nO 0
  simp only[j3] at this
  exact this
 ·refine⟨λj=> ?_,by simp⟩
  simp[go_sem]

theorem cT (w:World)(V F:Int)(s:Option Addr)(c:List Ins)(cap:Nat)(g:Gs)(ss:Option Addr)(gc:Nat)(h:Gs)(st:Option Addr)(hc:Nat):Below w.heap.size w (bJ w V F s c cap g ss gc h st hc):=by go_grown

def oK (w:World)(jb:Nat)(g:Gs)(ss:Option Addr)(gc:Nat)(h:Gs)(st:Option Addr)(hc:Nat)(J:Sp)(w':World):Prop:=
 (w'.cell? ⟨w.heap.size+1,0,nO⟩=sO (Bb g.n)∧w'.cell? ⟨w.heap.size+1,1,nO⟩=sO (Bb g.sp.n)∧w'.cell? ⟨w.heap.size+1,2,nO⟩=sO (I Y g.sp.lo)∧w'.cell? ⟨w.heap.size+1,3,nO⟩=sO (I Y g.sp.hi)∧w'.cell? ⟨w.heap.size+1,4,nO⟩=sO (Bb g.t)∧w'.cell? ⟨w.heap.size+1,5,nO⟩=sO (Bb g.f)∧w'.cell? ⟨w.heap.size+1,6,nO⟩=sO (U ss g.s.length gc))∧
 (w'.cell? ⟨w.heap.size+1+1,0,nO⟩=sO (Bb h.n)∧w'.cell? ⟨w.heap.size+1+1,1,nO⟩=sO (Bb h.sp.n)∧w'.cell? ⟨w.heap.size+1+1,2,nO⟩=sO (I Y h.sp.lo)∧w'.cell? ⟨w.heap.size+1+1,3,nO⟩=sO (I Y h.sp.hi)∧w'.cell? ⟨w.heap.size+1+1,4,nO⟩=sO (Bb h.t)∧w'.cell? ⟨w.heap.size+1+1,5,nO⟩=sO (Bb h.f)∧w'.cell? ⟨w.heap.size+1+1,6,nO⟩=sO (U st h.s.length hc))∧
 (w'.cell? ⟨jb,0,nO⟩=sO (Bb J.n)∧w'.cell? ⟨jb,1,nO⟩=sO (I Y J.lo)∧w'.cell? ⟨jb,2,nO⟩=sO (I Y J.hi))


abbrev mm (w:World)(b:Nat)(v0 v1 v2 v3 v4 v5 v6:Value):World:=((((((w.setCell ⟨b,0,nO⟩ v0).setCell ⟨b,1,nO⟩ v1).setCell ⟨b,2,nO⟩ v2).setCell ⟨b,3,nO⟩ v3).setCell ⟨b,4,nO⟩ v4).setCell ⟨b,5,nO⟩ v5).setCell ⟨b,6,nO⟩ v6
theorem sQ (w:World)(b k:Nat)(v0 v1 v2 v3 v4 v5 v6:Value)(h:k≠b):(mm w b v0 v1 v2 v3 v4 v5 v6).heap[k]? =w.heap[k]? :=by
 unfold mm
 rw[hSe _ _ _ _ h,hSe _ _ _ _ h,hSe _ _ _ _ h,hSe _ _ _ _ h,hSe _ _ _ _ h,hSe _ _ _ _ h,hSe _ _ _ _ h]
theorem sJ (w:World)(b:Nat)(v0 v1 v2 v3 v4 v5 v6:Value):(mm w b v0 v1 v2 v3 v4 v5 v6).heap.size=w.heap.size:=by simp[mm]
theorem tg (w:World)(b k j:Nat)(v0 v1 v2 v3 v4 v5 v6:Value)(h:k≠b):(mm w b v0 v1 v2 v3 v4 v5 v6).cell? ⟨k,j,nO⟩=w.cell? ⟨k,j,nO⟩:=j5 (a:=⟨k,j,nO⟩) (sQ w b k v0 v1 v2 v3 v4 v5 v6 h)
theorem GuAt.put7 {w:World}{b k o:Nat}{g:Gs}{ss:Option Addr}{cap:Nat}{v0 v1 v2 v3 v4 v5 v6:Value}(hg:GuAt w k o g ss cap)(h:k≠b):GuAt (mm w b v0 v1 v2 v3 v4 v5 v6) k o g ss cap:=by
 obtain⟨⟨h0,h1,h2,h3,h4,h5,h6⟩,hz⟩:=hg
 refine⟨⟨?_,?_,?_,?_,?_,?_,?_⟩,by rw[sJ];exact hz⟩<;>rw[tg _ _ _ _ _ _ _ _ _ _ _ h]<;>assumption
theorem SpAt.put7 {w:World}{b k:Nat}{s:Sp}{v0 v1 v2 v3 v4 v5 v6:Value}(hg:SpAt w k s)(h:k≠b):SpAt (mm w b v0 v1 v2 v3 v4 v5 v6) k s:=by
 obtain⟨⟨h0,h1,h2⟩,hz⟩:=hg
 refine⟨⟨?_,?_,?_⟩,by rw[sJ];exact hz⟩<;>rw[tg _ _ _ _ _ _ _ _ _ _ _ h]<;>assumption
theorem dE {B b:Nat}{a w:World}{v0 v1 v2 v3 v4 v5 v6:Value}(h:Below B a w)(hg:B≤b):Below B a (mm w b v0 v1 v2 v3 v4 v5 v6):=((((((h.setCell (by simpa using hg) _).setCell (by simpa using hg) _).setCell (by simpa using hg) _).setCell (by simpa using hg) _).setCell (by simpa using hg) _).setCell (by simpa using hg) _).setCell (by simpa using hg) _
theorem ia {w:World}{B B' n z:Nat}{e:TypeId}{v:Value}{xs:List Value}(h:w.ownsRow B e z v n xs)(hB:B'≤B):w.ownsRow B' e z v n xs:=
 ⟨h.1,h.2.imp id λ⟨g,cap,cur,r1,r2,r3⟩=>⟨g,cap,cur,r1,by omega,r3⟩⟩
theorem g7 {w:World}{B n b z:Nat}{e:TypeId}{v:Value}{xs:List Value}{v0 v1 v2 v3 v4 v5 v6:Value}(h:w.ownsRow B e z v n xs)(hb:b < B):(mm w b v0 v1 v2 v3 v4 v5 v6).ownsRow B e z v n xs:=
 ⟨h.1,h.2.imp id λ⟨g,cap,cur,r1,r2,r3,r4⟩=>⟨g,cap,cur,r1,r2,by rw[sQ _ _ _ _ _ _ _ _ _ _ (by omega)];exact r3,r4⟩⟩
theorem GsAt.drew {w:World}{ls:Option Addr}{L:List Gs}(h:GsAt w ls L):GsAt w.drew ls L:=h.call ((bR _ _).drew)

theorem pI {p:Prop}(h:p:=by
 refine(hJ.out _).mono ?_
 rintro e w2 ⟨rfl,hb2⟩
 have G2:=G1.call hb2
 have H2:=H1.call hb2
 have R2:=R1.call hb2
 have I2:=I1.call hb2
 have J2:=J1.call hb2
 have F2:=F1.call hb2
 have B2:=B1.trans (hb2.mono B1.size)
 clear hb2 G1 H1 R1 I1 J1 F1 B1 g0 g1 g2 g3 g4 g5 g6 gz k0 k1 k2 k3 k4 k5 k6 kz hJ
 go_wp2
 have G3:=G2.alloc (.cells #[.bool J.n,.int .i64 J.lo,.int .i64 J.hi] 89)
 have H3:=H2.alloc (.cells #[.bool J.n,.int .i64 J.lo,.int .i64 J.hi] 89)
 have R3:=R2.alloc (.cells #[.bool J.n,.int .i64 J.lo,.int .i64 J.hi] 89)
 have I3:=I2.alloc (.cells #[.bool J.n,.int .i64 J.lo,.int .i64 J.hi] 89)
 have J3:=J2.alloc (.cells #[.bool J.n,.int .i64 J.lo,.int .i64 J.hi] 89)
 have F3:=F2.alloc (.cells #[.bool J.n,.int .i64 J.lo,.int .i64 J.hi] 89)
 have B3:=B2.alloc B2.size (.cells #[.bool J.n,.int .i64 J.lo,.int .i64 J.hi] 89)
 have S3:=SpAt.new w2 J
 have zj:w.heap.size+1+1+1 < w2.heap.size:=F2.2
 clear G2 H2 R2 I2 J2 F2 B2
 generalize w2.alloc (.cells #[.bool J.n,.int .i64 J.lo,.int .i64 J.hi] 89)=w3 at *
 generalize w2.heap.size=jb at *
 have KS:∀wx,GuAt wx (w.heap.size+1) 0 g ss gc→GuAt wx (w.heap.size+1+1) 0 h st hc→SpAt wx jb J→oK w jb g ss gc h st hc J wx:=λwx a b c=>⟨by simpa using a.1,by simpa using b.1,c.1⟩
 unfold oK at KS
 obtain⟨n,sp,t,f,sl⟩:=g
 refine wp_region_held_drew (S:=oK w jb ⟨n,sp,t,f,sl⟩ ss gc h st hc J) (by kernel_rfl) (KS _ G3.drew H3.drew S3.drew) (λhHeld=> ?_)
 unfold oK at hHeld ⊢
 refine vH 0 ?_ ?_
 refine vH 1 ?_ ?_
 refine vH 2 ?_ ?_
 refine wpAnyH_take (i:=3) (v:=if n=true then undef else .pointer (some ⟨w.heap.size+1+1,0,none⟩)) rfl (by kernel_rfl) (by kernel_rfl) (by kernel_rfl) (λ_ _ _ h=>h) ?_ (by assumption) ?_
 ·cases n
  ·refine Or.inl ⟨?_,?_⟩
   ·rfl
   ·(intro w hSw;(try dsimp only at hSw);first|(go_simp;done)|(go_simp;with_reducible rfl))
  ·exact Or.inr ⟨rfl,rfl⟩
 refine sm ?_
 refine wpAnyH_take (i:=4) (v:=if n=true then undef else .bool h.n) rfl (by kernel_rfl) (by kernel_rfl) (by kernel_rfl) (λ_ _ _ h=>h) ?_ (by assumption) ?_
 ·cases n
  ·refine Or.inl ⟨?_,?_⟩
   ·rfl
   ·(intro w hSw;(try dsimp only at hSw);first|(go_simp;done)|(go_simp;with_reducible rfl))
  ·exact Or.inr ⟨rfl,rfl⟩
 refine sm ?_
 refine wpAnyH_take (i:=5) (v:=.bool (n||h.n)) rfl (by kernel_rfl) (by kernel_rfl) (by kernel_rfl) (λ_ _ _ h=>h) ?_ (by assumption) ?_
 ·cases n
  ·refine Or.inl ⟨?_,?_⟩
   ·rfl
   ·(intro w hSw;(try dsimp only at hSw);first|(go_simp;done)|(go_simp;with_reducible rfl))
  ·refine Or.inl ⟨?_,?_⟩
   ·rfl
   ·(intro w hSw;(try dsimp only at hSw);first|(go_simp;done)|(go_simp;with_reducible rfl))
 refine sm ?_
 refine vH 6 ?_ ?_
 refine vH 7 ?_ ?_
 refine vH 8 ?_ ?_
 refine vH 9 ?_ ?_
 refine wpAnyH_take (i:=10) (v:=if t=true then undef else .pointer (some ⟨w.heap.size+1+1,4,none⟩)) rfl (by kernel_rfl) (by kernel_rfl) (by kernel_rfl) (λ_ _ _ h=>h) ?_ (by assumption) ?_
 ·cases t
  ·refine Or.inl ⟨?_,?_⟩
   ·rfl
   ·(intro w hSw;(try dsimp only at hSw);first|(go_simp;done)|(go_simp;with_reducible rfl))
  ·exact Or.inr ⟨rfl,rfl⟩
 refine sm ?_
 refine wpAnyH_take (i:=11) (v:=if t=true then undef else .bool h.t) rfl (by kernel_rfl) (by kernel_rfl) (by kernel_rfl) (λ_ _ _ h=>h) ?_ (by assumption) ?_
 ·cases t
  ·refine Or.inl ⟨?_,?_⟩
   ·rfl
   ·(intro w hSw;(try dsimp only at hSw);first|(go_simp;done)|(go_simp;with_reducible rfl))
  ·exact Or.inr ⟨rfl,rfl⟩
 refine sm ?_
 refine wpAnyH_take (i:=12) (v:=.bool (t||h.t)) rfl (by kernel_rfl) (by kernel_rfl) (by kernel_rfl) (λ_ _ _ h=>h) ?_ (by assumption) ?_
 ·cases t
  ·refine Or.inl ⟨?_,?_⟩
   ·rfl
   ·(intro w hSw;(try dsimp only at hSw);first|(go_simp;done)|(go_simp;with_reducible rfl))
  ·refine Or.inl ⟨?_,?_⟩
   ·rfl
   ·(intro w hSw;(try dsimp only at hSw);first|(go_simp;done)|(go_simp;with_reducible rfl))
 refine sm ?_
 refine vH 13 ?_ ?_
 refine vH 14 ?_ ?_
 refine vH 15 ?_ ?_
 refine wpAnyH_take (i:=16) (v:=if f=true then undef else .pointer (some ⟨w.heap.size+1+1,5,none⟩)) rfl (by kernel_rfl) (by kernel_rfl) (by kernel_rfl) (λ_ _ _ h=>h) ?_ (by assumption) ?_
 ·cases f
  ·refine Or.inl ⟨?_,?_⟩
   ·rfl
   ·(intro w hSw;(try dsimp only at hSw);first|(go_simp;done)|(go_simp;with_reducible rfl))
  ·exact Or.inr ⟨rfl,rfl⟩
 refine sm ?_
 refine wpAnyH_take (i:=17) (v:=if f=true then undef else .bool h.f) rfl (by kernel_rfl) (by kernel_rfl) (by kernel_rfl) (λ_ _ _ h=>h) ?_ (by assumption) ?_
 ·cases f
  ·refine Or.inl ⟨?_,?_⟩
   ·rfl
   ·(intro w hSw;(try dsimp only at hSw);first|(go_simp;done)|(go_simp;with_reducible rfl))
  ·exact Or.inr ⟨rfl,rfl⟩
 refine sm ?_
 refine wpAnyH_take (i:=18) (v:=.bool (f||h.f)) rfl (by kernel_rfl) (by kernel_rfl) (by kernel_rfl) (λ_ _ _ h=>h) ?_ (by assumption) ?_
 ·cases f
  ·refine Or.inl ⟨?_,?_⟩
   ·rfl
   ·(intro w hSw;(try dsimp only at hSw);first|(go_simp;done)|(go_simp;with_reducible rfl))
  ·refine Or.inl ⟨?_,?_⟩
   ·rfl
   ·(intro w hSw;(try dsimp only at hSw);first|(go_simp;done)|(go_simp;with_reducible rfl))
 refine sm ?_
 refine vH 19 ?_ ?_
 refine vH 20 ?_ ?_
 have L3:=(GsAt.new2 w3 ⟨n,sp,t,f,sl⟩ ss gc h st hc I3 h1 h2 J3 h3 h4).drew
 have G4:=G3.alloc (.cells #[.bool n,.bool sp.n,.int .i64 sp.lo,.int .i64 sp.hi,.bool t,.bool f,.slice ss sl.length gc,.bool h.n,.bool h.sp.n,.int .i64 h.sp.lo,.int .i64 h.sp.hi,.bool h.t,.bool h.f,.slice st h.s.length hc] 91)
 have H4:=H3.alloc (.cells #[.bool n,.bool sp.n,.int .i64 sp.lo,.int .i64 sp.hi,.bool t,.bool f,.slice ss sl.length gc,.bool h.n,.bool h.sp.n,.int .i64 h.sp.lo,.int .i64 h.sp.hi,.bool h.t,.bool h.f,.slice st h.s.length hc] 91)
 have R4:=R3.alloc (.cells #[.bool n,.bool sp.n,.int .i64 sp.lo,.int .i64 sp.hi,.bool t,.bool f,.slice ss sl.length gc,.bool h.n,.bool h.sp.n,.int .i64 h.sp.lo,.int .i64 h.sp.hi,.bool h.t,.bool h.f,.slice st h.s.length hc] 91)
 have F4:=F3.alloc (.cells #[.bool n,.bool sp.n,.int .i64 sp.lo,.int .i64 sp.hi,.bool t,.bool f,.slice ss sl.length gc,.bool h.n,.bool h.sp.n,.int .i64 h.sp.lo,.int .i64 h.sp.hi,.bool h.t,.bool h.f,.slice st h.s.length hc] 91)
 have S4:=S3.alloc (.cells #[.bool n,.bool sp.n,.int .i64 sp.lo,.int .i64 sp.hi,.bool t,.bool f,.slice ss sl.length gc,.bool h.n,.bool h.sp.n,.int .i64 h.sp.lo,.int .i64 h.sp.hi,.bool h.t,.bool h.f,.slice st h.s.length hc] 91)
 have B4:=(B3.alloc B3.size (.cells #[.bool n,.bool sp.n,.int .i64 sp.lo,.int .i64 sp.hi,.bool t,.bool f,.slice ss sl.length gc,.bool h.n,.bool h.sp.n,.int .i64 h.sp.lo,.int .i64 h.sp.hi,.bool h.t,.bool h.f,.slice st h.s.length hc] 91)).drew
 refine wpAnyH_ready (rs:=[21]) (by kernel_rfl) (by simp) ?_
 refine AllReadyH.cons rfl (λK hK=> ?_) AllReadyH.nil
 go_simp
 refine hK.out _ _ (KS _ G4.drew H4.drew S4.drew) (λhHeld=> ?_)
 clear hK K
 refine sm ?_
 refine wpAnyH_ready (rs:=[22]) (by kernel_rfl) (by simp) ?_
 refine AllReadyH.cons rfl (λK hK=> ?_) AllReadyH.nil
 go_simp
 refine(vo _ [⟨n,sp,t,f,sl⟩,h] 2 _ L3 (by simp) hlen).mono ?_
 rintro e w5 ⟨v,rfl,hown,hb5⟩
 have G5:=G4.drew.call hb5
 have H5:=H4.drew.call hb5
 have R5:=R4.drew.call hb5
 have F5:=F4.drew.call hb5
 have S5:=S4.drew.call hb5
 have B5:Below w.heap.size w w5:=B4.trans (hb5.mono B4.size)
 have z5:w.heap.size+1+1+1 < w3.heap.size:=F3.2
 simp only[World.size_drew,World.size_alloc] at hown
 have O5:=hown
 clear hb5 G4 H4 R4 F4 S4 B4 L3 G3 H3 R3 F3 S3 B3 I3 J3
 obtain⟨vs,vc,rfl,-,-,-,hvb⟩:=IntsAt.own hown
 refine hK.out _ _ (KS _ G5 H5 S5) (λhHeld=> ?_)
 clear hK K hown
 refine sm ?_
 refine vH 23 ?_ ?_
 obtain⟨⟨r0,r1,r2,r3,r4,r5,r6⟩,rz⟩:=id R5
 simp only[Nat.zero_add,dF] at r0 r1 r2 r3 r4 r5 r6
 have fz:=F5.1
 refine wpAnyH_ready (rs:=[24]) (by kernel_rfl) (by simp) ?_
 refine AllReadyH.cons rfl (λK hK=> ?_) AllReadyH.nil
 go_simp
 refine hK.out _ _ (KS _ (G5.put7 (by omega)) (H5.put7 (by omega)) (S5.put7 (by omega))) (λhHeld=> ?_)
 clear hK K
 refine sm ?_
 refine vH 25 ?_ ?_
 refine wpAnyH_done (by kernel_rfl) ?_ _
 generalize (if n=true then undef else(.pointer (some ⟨w.heap.size+1+1,0,none⟩):Value))=y0
 generalize (if n=true then undef else(.bool h.n:Value))=y1
 generalize (if t=true then undef else(.pointer (some ⟨w.heap.size+1+1,4,none⟩):Value))=y2
 generalize (if t=true then undef else(.bool h.t:Value))=y3
 generalize (if f=true then undef else(.pointer (some ⟨w.heap.size+1+1,5,none⟩):Value))=y4
 generalize (if f=true then undef else(.bool h.f:Value))=y5
 go_wp2
 refine bodyPost_ret (v:=.tuple #[.agg #[.bool (n||h.n),.bool J.n,.int .i64 J.lo,.int .i64 J.hi,.bool (t||h.t),.bool (f||h.f),.slice vs (cy [⟨n,sp,t,f,sl⟩,h]).length vc],.int .i64 0]) (by simp[results,Tryz.results123,go_sem,r0,r1,r2,r3,r4,r5,r6]) rfl ⟨_,rfl,?_,?_⟩
 ·exact ia (g7 O5 (by omega)) (by omega)
 ·exact dE B5 (by omega)):p:=h
theorem mi {p:Prop}(h:p:=by
 have HW:=aa (λls lc w hL=>nV ls [g,h] lc w (by simp) hL)
 generalize ([g,h].any aV&& ![g,h].any au)=wr at HW ⊢
 go_enter Tryz.func164,Tryz.ntmps164
 go_wp2_with (go_at_call 142;fail)
 refine(bu V F s c cap _ [g,h] 2 _ (C0.alloc _) L0 (by simp)).mono ?_
 rintro e w1 ⟨rfl,hb1⟩
 rw[HK.out]
 have G1:=(G0.alloc _).call hb1
 have H1:=(H0.alloc _).call hb1
 have R1:=(R0.alloc _).call hb1
 have F1:Fr7 w1 (w.heap.size+1+1+1):=(F0.alloc _).call hb1
 have B1:Below w.heap.size w w1:=(B0.alloc B0.size _).trans (hb1.mono (by simp;omega))
 clear hb1 G0 H0 R0 I0 J0 F0 B0 C0 P0 L0 hcd hs ht HK
 obtain⟨⟨g0,g1,g2,g3,g4,g5,g6⟩,gz⟩:=id G1
 obtain⟨⟨k0,k1,k2,k3,k4,k5,k6⟩,kz⟩:=id H1
 simp only[Nat.zero_add] at g0 g1 g2 g3 g4 g5 g6 k0 k1 k2 k3 k4 k5 k6
 go_wp2_with (go_at_call 202;fail)
 refine(hJ.out _).mono ?_
 rintro e w2 ⟨rfl,hb2⟩
 have G2:=G1.call hb2
 have H2:=H1.call hb2
 have R2:=R1.call hb2
 have F2:=F1.call hb2
 have B2:=B1.trans (hb2.mono B1.size)
 clear hb2 G1 H1 R1 F1 B1 g0 g1 g2 g3 g4 g5 g6 gz k0 k1 k2 k3 k4 k5 k6 kz hJ
 go_wp2
 have G3:=G2.alloc (.cells #[.bool J.n,.int .i64 J.lo,.int .i64 J.hi] 89)
 have H3:=H2.alloc (.cells #[.bool J.n,.int .i64 J.lo,.int .i64 J.hi] 89)
 have R3:=R2.alloc (.cells #[.bool J.n,.int .i64 J.lo,.int .i64 J.hi] 89)
 have F3:=F2.alloc (.cells #[.bool J.n,.int .i64 J.lo,.int .i64 J.hi] 89)
 have B3:=B2.alloc B2.size (.cells #[.bool J.n,.int .i64 J.lo,.int .i64 J.hi] 89)
 have S3:=SpAt.new w2 J
 have zj:w.heap.size+1+1+1 < w2.heap.size:=F2.2
 clear G2 H2 R2 F2 B2
 generalize w2.alloc (.cells #[.bool J.n,.int .i64 J.lo,.int .i64 J.hi] 89)=w3 at *
 generalize w2.heap.size=jb at *
 have KS:∀wx,GuAt wx (w.heap.size+1) 0 g ss gc→GuAt wx (w.heap.size+1+1) 0 h st hc→SpAt wx jb J→oK w jb g ss gc h st hc J wx:=λwx a b c=>⟨by simpa using a.1,by simpa using b.1,c.1⟩
 refine wp_region_held_drew (S:=oK w jb g ss gc h st hc J) (by kernel_rfl) (KS _ G3.drew H3.drew S3.drew) (λhHeld=> ?_)
 unfold oK at hHeld KS ⊢
 refine vH 0 ?_ ?_
 refine vH 1 ?_ ?_
 refine vH 2 ?_ ?_
 refine vH 3 ?_ ?_
 have L3:GhAt (mQ w3 g ss gc h st hc).drew (some ⟨w3.heap.size,0,none⟩) [g,h]:=(GhAt.new2 w3 g ss gc h st hc).call (Below.refl _ _).drew
 have G4:=G3.alloc (.cells #[.bool g.n,.bool g.sp.n,.int .i64 g.sp.lo,.int .i64 g.sp.hi,.bool g.t,.bool g.f,.slice ss g.s.length gc,.bool h.n,.bool h.sp.n,.int .i64 h.sp.lo,.int .i64 h.sp.hi,.bool h.t,.bool h.f,.slice st h.s.length hc] 91)
 have H4:=H3.alloc (.cells #[.bool g.n,.bool g.sp.n,.int .i64 g.sp.lo,.int .i64 g.sp.hi,.bool g.t,.bool g.f,.slice ss g.s.length gc,.bool h.n,.bool h.sp.n,.int .i64 h.sp.lo,.int .i64 h.sp.hi,.bool h.t,.bool h.f,.slice st h.s.length hc] 91)
 have R4:=R3.alloc (.cells #[.bool g.n,.bool g.sp.n,.int .i64 g.sp.lo,.int .i64 g.sp.hi,.bool g.t,.bool g.f,.slice ss g.s.length gc,.bool h.n,.bool h.sp.n,.int .i64 h.sp.lo,.int .i64 h.sp.hi,.bool h.t,.bool h.f,.slice st h.s.length hc] 91)
 have F4:=F3.alloc (.cells #[.bool g.n,.bool g.sp.n,.int .i64 g.sp.lo,.int .i64 g.sp.hi,.bool g.t,.bool g.f,.slice ss g.s.length gc,.bool h.n,.bool h.sp.n,.int .i64 h.sp.lo,.int .i64 h.sp.hi,.bool h.t,.bool h.f,.slice st h.s.length hc] 91)
 have S4:=S3.alloc (.cells #[.bool g.n,.bool g.sp.n,.int .i64 g.sp.lo,.int .i64 g.sp.hi,.bool g.t,.bool g.f,.slice ss g.s.length gc,.bool h.n,.bool h.sp.n,.int .i64 h.sp.lo,.int .i64 h.sp.hi,.bool h.t,.bool h.f,.slice st h.s.length hc] 91)
 have B4:=(B3.alloc B3.size (.cells #[.bool g.n,.bool g.sp.n,.int .i64 g.sp.lo,.int .i64 g.sp.hi,.bool g.t,.bool g.f,.slice ss g.s.length gc,.bool h.n,.bool h.sp.n,.int .i64 h.sp.lo,.int .i64 h.sp.hi,.bool h.t,.bool h.f,.slice st h.s.length hc] 91)).drew
 refine wpAnyH_ready (rs:=[4]) (by kernel_rfl) (by simp) ?_
 refine AllReadyH.cons rfl (λK hK=> ?_) AllReadyH.nil
 go_simp
 refine hK.out _ _ (KS _ G4.drew H4.drew S4.drew) (λhHeld=> ?_)
 clear hK K
 refine sm ?_
 refine wpAnyH_ready (rs:=[5]) (by kernel_rfl) (by simp) ?_
 refine AllReadyH.cons rfl (λK hK=> ?_) AllReadyH.nil
 go_simp
 refine(HW.out _ 2 _ L3).mono ?_
 rintro e w5 ⟨rfl,hb5⟩
 have G5:=G4.drew.call hb5
 have H5:=H4.drew.call hb5
 have R5:=R4.drew.call hb5
 have F5:=F4.drew.call hb5
 have S5:=S4.drew.call hb5
 have B5:Below w.heap.size w w5:=B4.trans (hb5.mono B4.size)
 clear hb5 G4 H4 R4 F4 S4 B4 L3 G3 H3 R3 F3 S3 B3
 refine hK.out _ _ (KS _ G5 H5 S5) (λhHeld=> ?_)
 clear hK K
 refine sm ?_
 obtain⟨⟨r0,r1,r2,r3,r4,r5,r6⟩,rz⟩:=id R5
 simp only[Nat.zero_add,dF] at r0 r1 r2 r3 r4 r5 r6
 have fz:=F5.1
 refine wpAnyH_ready (rs:=[6]) (by kernel_rfl) (by simp) ?_
 refine AllReadyH.cons rfl (λK hK=> ?_) AllReadyH.nil
 go_simp
 refine hK.out _ _ (KS _ (G5.put7 (by omega)) (H5.put7 (by omega)) (S5.put7 (by omega))) (λhHeld=> ?_)
 clear hK K
 refine sm ?_
 refine vH 7 ?_ ?_
 refine vH 8 ?_ ?_
 refine wpAnyH_done (by kernel_rfl) ?_ _
 go_wp2
 refine bodyPost_ret (v:=.tuple #[gv ⟨false,J,false,false,[]⟩ none 0,.bool wr,.int .i64 0]) (by simp[results,Tryz.results164,go_sem,r0,r1,r2,r3,r4,r5,r6]) rfl ⟨rfl,?_⟩
 exact dE B5 (by omega)):p:=h
section
variable {S:Nat→Prop} {w:World} {x:Pic} {vs fs:Option Addr}
end
def EdsOn (S:Nat→Prop)(w:World)(es:Option Addr)(L:List Edg):Prop:=
 ∀i (h:i < L.length),∃b off,es=sO ⟨b,off,nO⟩∧S b∧b < w.heap.size∧∃vs vc fs fc,(w.cell? ⟨b,off+i * 4,nO⟩=sO (I Y L[i].tgt)∧w.cell? ⟨b,off+i * 4+1,nO⟩=sO (Bb L[i].pic.none)∧w.cell? ⟨b,off+i * 4+2,nO⟩=sO (U vs L[i].pic.vars.length vc)∧w.cell? ⟨b,off+i * 4+3,nO⟩=sO (U fs L[i].pic.flds.length fc))∧PicOn S w L[i].pic vs fs∧(L[i].pic.vars.length≤vc∧vc≤maxLen)∧(L[i].pic.flds.length≤fc∧fc≤maxLen)
section
variable {S S':Nat→Prop} {w w':World} {es:Option Addr} {L:List Edg}
theorem EdsOn.nil:EdsOn S w es []:=λi h=>absurd h (by simp)
theorem EdsOn.same (h:EdsOn S w es L)(hs:∀b,S b→b < w.heap.size→w'.heap[b]? =w.heap[b]?)(hz:w.heap.size≤w'.heap.size):EdsOn S w' es L:=by
 intro i hi
 obtain⟨b,off,e,hS,hb,vs,vc,fs,fc,⟨c0,c1,c2,c3⟩,hp,hv,hf⟩:=h i hi
 have hc:∀j,w'.cell? ⟨b,j,nO⟩=w.cell? ⟨b,j,nO⟩:=λj=>j5 (a:=⟨b,j,nO⟩) (hs b hS hb)
 exact⟨b,off,e,hS,lL hb hz,vs,vc,fs,fc,⟨(hc _).trans c0,(hc _).trans c1,(hc _).trans c2,(hc _).trans c3⟩,(hp.same hs hz).mono λb hb _=>hb.1,hv,hf⟩
theorem EdsOn.mono (h:EdsOn S w es L)(hs:∀b,S b→b < w.heap.size→S' b):EdsOn S' w es L:=by
 intro i hi
 obtain⟨b,off,e,hS,hb,vs,vc,fs,fc,hc,hp,hv,hf⟩:=h i hi
 exact⟨b,off,e,hs b hS hb,hb,vs,vc,fs,fc,hc,hp.mono hs,hv,hf⟩
end
theorem ERow.eds {n sb:Nat}{w:World}{es:Option Addr}{ec:Nat}{L:List Ed}(h:ERow n sb w (U es L.length ec) L):EdsOn (λb=>n≤b) w es (L.map edG):=by
 intro i hi
 have hil:i < L.length:=by simpa using hi
 have ei:(L.map edG)[i]=edG L[i]:=by simp
 rw[ei]
 rcases h.own.2 with⟨e,h0⟩|⟨g,cap,cur,e,hb,hg,k1,k2,k3,k4⟩
 ·omega
 ·simp only[j7.injEq] at e
  obtain⟨e1,-,-⟩:=e
  subst e1
  obtain⟨p1,p2,p3⟩:=h.pics _ (gM hil)
  have hc:∀j,j < 4→w.cell? ⟨g,i * 4+j,nO⟩=(dK L[i])[j]? :=λj hj=>by
   rw[←nX L i hil j hj]
   exact World.ownsRow.cellAt h.own _ (by omega)
  refine⟨g,0,rfl,hb,(Array.getElem?_eq_some_iff.1 hg).1,L[i].vs,L[i].vc,L[i].fs,L[i].fc,?_,p1.mono λb hb _=>hb.1,p2,p3⟩
  simp only[q6]
  exact⟨hc 0 (by omega),hc 1 (by omega),hc 2 (by omega),hc 3 (by omega)⟩
end
section
open Go.RowKit
attribute [local go_sem ↓] Go.wp_at_zero Go.wp_at_succ
theorem dH {p:Prop}(h:p:=by
 refine HC.out.mono ?_
 rintro e w1 ⟨rfl,h1,h2,h3,h4⟩
 clear HC
 go_wp2
 go_ret
 exact⟨rfl,h1,(HW.mono hB).trans h2,λj hj=>by rw[h3 j hj];exact HW.cell hm,cE (cH HW) HW.size h4⟩):p:=h
theorem Hx (m B t x y:Nat)(s:St)(vv tv lv:Value)(fv:List Value)(n g:Int)(w:World)(h:OwnRun w B m s vv tv lv fv)(hB:B≤w.heap.size)(ht:t < s.vars.length)(hx:x < s.vars.length)(hy:y < s.vars.length):
  Calls pG 86 #[Pp (sO ⟨m,0,nO⟩),Ag #[I Y 5,I Y t,I Y x,I Y y,I Y n,I Y g]] w λe w'=>e=Rt (I Y (fX s.vars[x] s.vars[y]))∧MStep w w' B m (ae m vv tv lv fv) (fq s t 5 s.vars[x] s.vars[y]):=by
 have hm:m < w.heap.size:=h.lt (by simp[ae])
 have HW:Below w.heap.size w (w.alloc (Cc #[I Y 5,I Y t,I Y x,I Y y,I Y n,I Y g] 100)):=by go_grown
 have HC:=aD (ke m B t x y s vv tv lv fv 5 n g (w.alloc (Cc #[I Y 5,I Y t,I Y x,I Y y,I Y n,I Y g] 100)) (h.below HW) (lT hB HW.size) ht hx hy (by omega))
 clear h
 go_enter Tryz.func86,Tryz.ntmps86
 go_wp2_with (go_at_call 147;fail)
 exact dH

theorem Io (m B t x y:Nat)(s:St)(vv tv lv:Value)(fv:List Value)(n g:Int)(w:World)(h:OwnRun w B m s vv tv lv fv)(hB:B≤w.heap.size)(ht:t < s.vars.length)(hx:x < s.vars.length)(hy:y < s.vars.length):
  Calls pG 86 #[Pp (sO ⟨m,0,nO⟩),Ag #[I Y 6,I Y t,I Y x,I Y y,I Y n,I Y g]] w λe w'=>e=Rt (I Y (fX s.vars[x] s.vars[y]))∧MStep w w' B m (ae m vv tv lv fv) (fq s t 6 s.vars[x] s.vars[y]):=by
 have hm:m < w.heap.size:=h.lt (by simp[ae])
 have HW:Below w.heap.size w (w.alloc (Cc #[I Y 6,I Y t,I Y x,I Y y,I Y n,I Y g] 100)):=by go_grown
 have HC:=aD (ke m B t x y s vv tv lv fv 6 n g (w.alloc (Cc #[I Y 6,I Y t,I Y x,I Y y,I Y n,I Y g] 100)) (h.below HW) (lT hB HW.size) ht hx hy (by omega))
 clear h
 go_enter Tryz.func86,Tryz.ntmps86
 go_wp2_with (go_at_call 147;fail)
 exact dH

theorem Hh (m B t x y:Nat)(s:St)(vv tv lv:Value)(fv:List Value)(n g:Int)(w:World)(h:OwnRun w B m s vv tv lv fv)(hB:B≤w.heap.size)(ht:t < s.vars.length)(hx:x < s.vars.length)(hy:y < s.vars.length):
  Calls pG 86 #[Pp (sO ⟨m,0,nO⟩),Ag #[I Y 7,I Y t,I Y x,I Y y,I Y n,I Y g]] w λe w'=>e=Rt (I Y (fX s.vars[x] s.vars[y]))∧MStep w w' B m (ae m vv tv lv fv) (fq s t 7 s.vars[x] s.vars[y]):=by
 have hm:m < w.heap.size:=h.lt (by simp[ae])
 have HW:Below w.heap.size w (w.alloc (Cc #[I Y 7,I Y t,I Y x,I Y y,I Y n,I Y g] 100)):=by go_grown
 have HC:=aD (ke m B t x y s vv tv lv fv 7 n g (w.alloc (Cc #[I Y 7,I Y t,I Y x,I Y y,I Y n,I Y g] 100)) (h.below HW) (lT hB HW.size) ht hx hy (by omega))
 clear h
 go_enter Tryz.func86,Tryz.ntmps86
 go_wp2_with (go_at_call 147;fail)
 exact dH

theorem Ii (m B t x y:Nat)(s:St)(vv tv lv:Value)(fv:List Value)(n g:Int)(w:World)(h:OwnRun w B m s vv tv lv fv)(hB:B≤w.heap.size)(ht:t < s.vars.length)(hx:x < s.vars.length)(hy:y < s.vars.length):
  Calls pG 86 #[Pp (sO ⟨m,0,nO⟩),Ag #[I Y 8,I Y t,I Y x,I Y y,I Y n,I Y g]] w λe w'=>e=Rt (I Y (fX s.vars[x] s.vars[y]))∧MStep w w' B m (ae m vv tv lv fv) (fq s t 8 s.vars[x] s.vars[y]):=by
 have hm:m < w.heap.size:=h.lt (by simp[ae])
 have HW:Below w.heap.size w (w.alloc (Cc #[I Y 8,I Y t,I Y x,I Y y,I Y n,I Y g] 100)):=by go_grown
 have HC:=aD (ke m B t x y s vv tv lv fv 8 n g (w.alloc (Cc #[I Y 8,I Y t,I Y x,I Y y,I Y n,I Y g] 100)) (h.below HW) (lT hB HW.size) ht hx hy (by omega))
 clear h
 go_enter Tryz.func86,Tryz.ntmps86
 go_wp2_with (go_at_call 147;fail)
 exact dH

theorem FB (m B:Nat)(s:St)(vv tv lv:Value)(fv:List Value)(t a b n g:Int)(w:World)(h:OwnRun w B m s vv tv lv fv)(hB:B≤w.heap.size)(hT:s.things.length=100):
  Calls pG 86 #[Pp (sO ⟨m,0,nO⟩),Ag #[I Y 11,I Y t,I Y a,I Y b,I Y n,I Y g]] w λe w'=>e=Rt (I Y 5)∧MStep w w' B m (ae m vv tv lv fv) s:=by
 have hm:m < w.heap.size:=h.lt (by simp[ae])
 have HW:Below w.heap.size w (w.alloc (Cc #[I Y 11,I Y t,I Y a,I Y b,I Y n,I Y g] 100)):=by go_grown
 have HC:=aD (Bt m B s vv tv lv fv t a b n g (w.alloc (Cc #[I Y 11,I Y t,I Y a,I Y b,I Y n,I Y g] 100)) (h.below HW) (lT hB HW.size) hT)
 clear h
 go_enter Tryz.func86,Tryz.ntmps86
 go_wp2_with (go_at_call 149;fail)
 exact dH

theorem Fl (m B t f:Nat)(s:St)(vv tv lv:Value)(fv:List Value)(a b n g:Int)(w:World)(h:OwnRun w B m s vv tv lv fv)(hB:B≤w.heap.size)(ht:t < s.vars.length)(hT:s.things.length < 100)(hf:f≤3)(h7:w.cell? ⟨m,7,nO⟩=sO (I Y f)):
  Calls pG 86 #[Pp (sO ⟨m,0,nO⟩),Ag #[I Y 11,I Y t,I Y a,I Y b,I Y n,I Y g]] w λe w'=>e=Rt (I Y 0)∧MStep w w' B m (ae m vv tv lv fv) {s with vars:=s.vars.set t ⟨3,s.things.length⟩,things:=s.things++[⟨s.at_,List.replicate f ⟨0,0⟩⟩]}:=by
 have hm:m < w.heap.size:=h.lt (by simp[ae])
 have HW:Below w.heap.size w (w.alloc (Cc #[I Y 11,I Y t,I Y a,I Y b,I Y n,I Y g] 100)):=by go_grown
 have HC:=aD (Ef m B t f s vv tv lv fv a b n g (w.alloc (Cc #[I Y 11,I Y t,I Y a,I Y b,I Y n,I Y g] 100)) (h.below HW) (lT hB HW.size) ht hT hf (by rw[HW.cell (by simpa using hm)];exact h7))
 clear h
 go_enter Tryz.func86,Tryz.ntmps86
 go_wp2_with (go_at_call 149;fail)
 exact dH

theorem Fq (m B x:Nat)(s:St)(vv tv lv:Value)(fv:List Value)(t b n g:Int)(w:World)(h:OwnRun w B m s vv tv lv fv)(hB:B≤w.heap.size)(hx:x < s.vars.length)(hv:s.vars[x].k≠3):
  Calls pG 86 #[Pp (sO ⟨m,0,nO⟩),Ag #[I Y 12,I Y t,I Y x,I Y b,I Y n,I Y g]] w λe w'=>e=Rt (I Y 2)∧MStep w w' B m (ae m vv tv lv fv) s:=by
 have hm:m < w.heap.size:=h.lt (by simp[ae])
 have HW:Below w.heap.size w (w.alloc (Cc #[I Y 12,I Y t,I Y x,I Y b,I Y n,I Y g] 100)):=by go_grown
 have HC:=aD (ox m B x s vv tv lv fv 12 t b n g (w.alloc (Cc #[I Y 12,I Y t,I Y x,I Y b,I Y n,I Y g] 100)) (h.below HW) (lT hB HW.size) hx hv)
 clear h
 go_enter Tryz.func86,Tryz.ntmps86
 go_wp2_with (go_at_call 150;fail)
 exact dH

theorem FT (m B x:Nat)(s:St)(vv tv lv:Value)(fv:List Value)(t b n g:Int)(w:World)(h:OwnRun w B m s vv tv lv fv)(hB:B≤w.heap.size)(hx:x < s.vars.length)(hv:s.vars[x].k≠3):
  Calls pG 86 #[Pp (sO ⟨m,0,nO⟩),Ag #[I Y 13,I Y t,I Y x,I Y b,I Y n,I Y g]] w λe w'=>e=Rt (I Y 2)∧MStep w w' B m (ae m vv tv lv fv) s:=by
 have hm:m < w.heap.size:=h.lt (by simp[ae])
 have HW:Below w.heap.size w (w.alloc (Cc #[I Y 13,I Y t,I Y x,I Y b,I Y n,I Y g] 100)):=by go_grown
 have HC:=aD (ox m B x s vv tv lv fv 13 t b n g (w.alloc (Cc #[I Y 13,I Y t,I Y x,I Y b,I Y n,I Y g] 100)) (h.below HW) (lT hB HW.size) hx hv)
 clear h
 go_enter Tryz.func86,Tryz.ntmps86
 go_wp2_with (go_at_call 150;fail)
 exact dH

theorem Gh (m B x q f t:Nat)(s:St)(vv tv lv:Value)(fv:List Value)(b g:Int)(w:World)(h:OwnRun w B m s vv tv lv fv)(hB:B≤w.heap.size)(hx:x < s.vars.length)(hv:s.vars[x]=⟨3,(q:Int)⟩)(hq:q < s.things.length)(hf:f < s.things[q].fs.length)(ht:t < s.vars.length):
  Calls pG 86 #[Pp (sO ⟨m,0,nO⟩),Ag #[I Y 12,I Y t,I Y x,I Y b,I Y f,I Y g]] w λe w'=>e=Rt (I Y 0)∧MStep w w' B m (ae m vv tv lv fv) {s with vars:=s.vars.set t s.things[q].fs[f]}:=by
 have hm:m < w.heap.size:=h.lt (by simp[ae])
 have HW:Below w.heap.size w (w.alloc (Cc #[I Y 12,I Y t,I Y x,I Y b,I Y f,I Y g] 100)):=by go_grown
 have HC:=aD (Dn m B x q f t s vv tv lv fv b g (w.alloc (Cc #[I Y 12,I Y t,I Y x,I Y b,I Y f,I Y g] 100)) (h.below HW) (lT hB HW.size) hx hv hq hf ht)
 clear h hv
 go_enter Tryz.func86,Tryz.ntmps86
 go_wp2_with (go_at_call 150;fail)
 exact dH

theorem Ha (m B x q f y:Nat)(s:St)(vv tv lv:Value)(fv:List Value)(t g:Int)(w:World)(h:OwnRun w B m s vv tv lv fv)(hB:B≤w.heap.size)(hx:x < s.vars.length)(hv:s.vars[x]=⟨3,(q:Int)⟩)(hq:q < s.things.length)(hf:f < s.things[q].fs.length)(hy:y < s.vars.length):
  Calls pG 86 #[Pp (sO ⟨m,0,nO⟩),Ag #[I Y 13,I Y t,I Y x,I Y y,I Y f,I Y g]] w λe w'=>e=Rt (I Y 0)∧MStep w w' B m (ae m vv tv lv fv) (bV s q f s.vars[y]):=by
 have hm:m < w.heap.size:=h.lt (by simp[ae])
 have HW:Below w.heap.size w (w.alloc (Cc #[I Y 13,I Y t,I Y x,I Y y,I Y f,I Y g] 100)):=by go_grown
 have HC:=aD (Bw m B x q f y s vv tv lv fv t g (w.alloc (Cc #[I Y 13,I Y t,I Y x,I Y y,I Y f,I Y g] 100)) (h.below HW) (lT hB HW.size) hx hv hq hf hy)
 clear h hv
 go_enter Tryz.func86,Tryz.ntmps86
 go_wp2_with (go_at_call 150;fail)
 exact dH
theorem MStep.of {w w':World}{B m:Nat}{bs:List (Option Nat)}{s s':St}(h:MStep w w' B m bs s)(e:s=s'):MStep w w' B m bs s':=e ▸ h
theorem kH {P:Program}{f:FuncId}{args:Array Value}{w:World}{x y:Int}{Q R:World→Prop}(h:Calls P f args w λe w'=>e=Rt (I Y x)∧Q w')(e:x=y)(hQ:∀w',Q w'→R w'):Calls P f args w λe w'=>e=Rt (I Y y)∧R w':=
 h.mono λe' w' ⟨h1,h2⟩=>⟨by rw[h1,e],hQ w' h2⟩
theorem Fv (V:Int)(f:Nat)(c:List Ins)(s:St)(hp:ProgOk V f c)(hr:RunOk V f c s)(i:Ins)(hi:bB V f c.length i=0)(ins:List Int)(m B:Nat)(vv tv lv:Value)(fv:List Value)(is:Option Addr)(ic:Nat)(w:World)
  (h:OwnRun w B m s vv tv lv fv)(hB:B≤w.heap.size)(h7:w.cell? ⟨m,7,nO⟩=sO (I Y f))(h9:w.cell? ⟨m,9,nO⟩=sO (U is ins.length ic))(hI:IntsAt w is ins)(hT:Tab w)(hln:(s.lines.length+1) * 16≤140737488355328):
  Calls pG 86 #[Pp (sO ⟨m,0,nO⟩),Ag #[I Y i.k,I Y i.tgt,I Y i.a,I Y i.b,I Y i.n,I Y i.g]] w λe w'=>e=Rt (I Y (ft s i))∧MStep w w' B m (ae m vv tv lv fv) (A8 f ins s i):=by
 have hA:=rL hr hi
 have hC:=vw hr hi
 obtain⟨k,tt,a,b,n,g⟩:=i
 obtain⟨h1,h2,h3,h4,h5,h6,h7',h8,h9'⟩:=bd hi
 simp only at h1 h2 h3 h4 h5 h6 h7' h8 h9' ⊢
 have hv:=hr.vars
 have hV:=hp.v8
 have tN:nTo k=true→∃t:Nat,tt=t∧t < s.vars.length:=λhk=>by
  obtain⟨t,rfl⟩:=j1 (h2 hk).1
  exact⟨t,rfl,by have:=(h2 hk).2;omega⟩
 have aN:nA k=true→∃x:Nat,∃hx:x < s.vars.length,a=x∧aOf s ⟨k,tt,a,b,n,g⟩=s.vars[x]:=λhk=>by
  obtain⟨x,rfl⟩:=j1 (h3 hk).1
  have hx:x < s.vars.length:=by have:=(h3 hk).2;omega
  exact⟨x,hx,rfl,by unfold aOf;simp only[hk,if_true];exact gH hx⟩
 have bN:nB k=true→∃y:Nat,∃hy:y < s.vars.length,b=y∧bOf s ⟨k,tt,a,b,n,g⟩=s.vars[y]:=λhk=>by
  obtain⟨y,rfl⟩:=j1 (h4 hk).1
  have hy:y < s.vars.length:=by have:=(h4 hk).2;omega
  exact⟨y,hy,rfl,by unfold bOf;simp only[hk,if_true];exact gH hy⟩
 unfold ft A8 ft
 generalize aOf s ⟨k,tt,a,b,n,g⟩=A at *
 generalize bOf s ⟨k,tt,a,b,n,g⟩=C at *
 rcases td h1 with rfl|rfl|rfl|rfl|rfl|rfl|rfl|rfl|rfl|rfl|rfl|rfl|rfl|rfl|rfl|rfl|rfl|rfl|rfl
 ·obtain⟨t,rfl,ht⟩:=tN rfl
  rw[cq _ 1 (by omega),if_pos rfl,Hi,j0]
  exact Ij m B t s vv tv lv fv a b n g w h hB ht (by have:=h7' rfl;unfold wr;omega)
 ·obtain⟨t,rfl,ht⟩:=tN rfl
  rw[cq _ 2 (by omega),if_pos rfl,Hw,j0]
  have e:cd (n==1)=⟨2,n⟩:=by rcases h8 rfl with rfl|rfl<;>rfl
  rw[←e]
  exact Hn m B t s vv tv lv fv a b n g w h hB ht
 ·obtain⟨t,rfl,ht⟩:=tN rfl
  rw[cq _ 3 (by omega),if_pos rfl,Ib,j0]
  exact Hs m B t s vv tv lv fv a b n g w h hB ht
 ·obtain⟨t,rfl,ht⟩:=tN rfl
  obtain⟨x,hx,rfl,rfl⟩:=aN rfl
  rw[cq _ 4 (by omega),if_pos rfl,Ik,j0]
  exact Ih m B t x s vv tv lv fv b n g w h hB ht hx
 ·obtain⟨t,rfl,ht⟩:=tN rfl
  obtain⟨x,hx,rfl,rfl⟩:=aN rfl
  obtain⟨y,hy,rfl,rfl⟩:=bN rfl
  rw[nz _ 5 (by omega),Ip,j0]
  refine kH (Hx m B t x y s vv tv lv fv n g w h hB ht hx hy) rfl (λw' hw=>hw.of ?_)
  unfold fq
  split
  ·rw[if_neg (by omega)]
  ·rw[if_pos rfl];rfl
 ·obtain⟨t,rfl,ht⟩:=tN rfl
  obtain⟨x,hx,rfl,rfl⟩:=aN rfl
  obtain⟨y,hy,rfl,rfl⟩:=bN rfl
  rw[nz _ 6 (by omega),Ht,j0]
  refine kH (Io m B t x y s vv tv lv fv n g w h hB ht hx hy) rfl (λw' hw=>hw.of ?_)
  unfold fq
  split
  ·rw[if_neg (by omega)]
  ·rw[if_pos rfl];rfl
 ·obtain⟨t,rfl,ht⟩:=tN rfl
  obtain⟨x,hx,rfl,rfl⟩:=aN rfl
  obtain⟨y,hy,rfl,rfl⟩:=bN rfl
  rw[nz _ 7 (by omega),Hj,j0]
  refine kH (Hh m B t x y s vv tv lv fv n g w h hB ht hx hy) rfl (λw' hw=>hw.of ?_)
  unfold fq
  split
  ·rw[if_neg (by omega)]
  ·rw[if_pos rfl];rfl
 ·obtain⟨t,rfl,ht⟩:=tN rfl
  obtain⟨x,hx,rfl,rfl⟩:=aN rfl
  obtain⟨y,hy,rfl,rfl⟩:=bN rfl
  rw[nz _ 8 (by omega),Hv,j0]
  refine kH (Ii m B t x y s vv tv lv fv n g w h hB ht hx hy) rfl (λw' hw=>hw.of ?_)
  unfold fq
  split
  ·rw[if_neg (by omega)]
  ·rw[if_pos rfl];rfl
 ·obtain⟨t,rfl,ht⟩:=tN rfl
  obtain⟨x,hx,rfl,rfl⟩:=aN rfl
  obtain⟨y,hy,rfl,rfl⟩:=bN rfl
  rw[cq _ 9 (by omega),if_pos rfl,Hm,j0]
  exact He m B t x y s vv tv lv fv n g w h hB ht hx hy
 ·obtain⟨t,rfl,ht⟩:=tN rfl
  obtain⟨x,hx,rfl,rfl⟩:=aN rfl
  rw[cq _ 10 (by omega),if_pos rfl,GH,j0]
  exact Gr m B t x s vv tv lv fv b n g w h hB ht hx _ hA
 ·obtain⟨t,rfl,ht⟩:=tN rfl
  rw[Br]
  by_cases h100:s.things.length=100
  ·rw[if_pos h100,if_neg (by omega)]
   exact FB m B s vv tv lv fv t a b n g w h hB h100
  ·have:=hr.things
   have hf3:=hp.f3
   rw[if_neg h100,if_pos rfl,Bu,j0,j0]
   exact Fl m B t f s vv tv lv fv a b n g w h hB ht (by omega) (by omega) h7
 ·obtain⟨t,rfl,ht⟩:=tN rfl
  obtain⟨x,hx,rfl,rfl⟩:=aN rfl
  rw[rT _ 12 (by omega)]
  by_cases hk3:s.vars[x].k=3
  ·rw[if_pos hk3,if_pos rfl,GB,j0]
   rcases hA with hA|hA|hA|hA
   ·omega
   ·omega
   ·omega
   obtain⟨q,hq⟩:=j1 hA.2.1
   obtain⟨f',rfl⟩:=j1 (h5 (.inl rfl)).1
   have hql:q < s.things.length:=by omega
   have hfl:f' < s.things[q].fs.length:=by have:=hr.fields _ (gM hql);have:=(h5 (.inl rfl)).2;omega
   rw[hq,rk hql hfl]
   exact Gh m B x q f' t s vv tv lv fv b g w h hB hx (by rw[←hk3,←hq]) hql hfl ht
  ·rw[if_neg hk3,if_neg (by omega)]
   exact Fq m B x s vv tv lv fv t b n g w h hB hx hk3
 ·obtain⟨x,hx,rfl,rfl⟩:=aN rfl
  obtain⟨y,hy,rfl,rfl⟩:=bN rfl
  rw[rT _ 13 (by omega)]
  by_cases hk3:s.vars[x].k=3
  ·rw[if_pos hk3,if_pos rfl,uT]
   rcases hA with hA|hA|hA|hA
   ·omega
   ·omega
   ·omega
   obtain⟨q,hq⟩:=j1 hA.2.1
   obtain⟨f',rfl⟩:=j1 (h5 (.inr rfl)).1
   have hql:q < s.things.length:=by omega
   have hfl:f' < s.things[q].fs.length:=by have:=hr.fields _ (gM hql);have:=(h5 (.inr rfl)).2;omega
   rw[hq]
   exact Ha m B x q f' y s vv tv lv fv tt g w h hB hx (by rw[←hk3,←hq]) hql hfl hy
  ·rw[if_neg hk3,if_neg (by omega)]
   exact FT m B x s vv tv lv fv tt y n g w h hB hx hk3
 ·obtain⟨t,rfl,ht⟩:=tN rfl
  rw[cq _ 14 (by omega),if_pos rfl,GJ,j0]
  exact Gq m B t s vv tv lv fv a b n g w h hB ht is ic ins (h9' rfl).1 (h9' rfl).2 h9 hI hr.tk
 ·rw[cq _ 15 (by omega),if_pos rfl,gK 15 (by omega)]
  exact GO m B s vv tv lv fv tt a b n g w h hB
 ·rw[cq _ 16 (by omega),if_pos rfl,gK 16 (by omega)]
  exact Gn m B s vv tv lv fv tt a b n g w h hB
 ·obtain⟨x,hx,rfl,rfl⟩:=aN rfl
  rw[BM,gK 17 (by omega),show (if (if cnt s.vars[x]=true then(0:Int) else 3)=0 then s else s)=s by split<;>rfl]
  exact Hd m B x s vv tv lv fv tt b n g w h hB hx _ hA
 ·obtain⟨x,hx,rfl,rfl⟩:=aN rfl
  rw[cq _ 18 (by omega),if_pos rfl,Ci]
  exact GG m B x s vv tv lv fv tt b n g w h hB hx _ hA hT hln
 ·rw[Bk,gK 19 (by omega),show (if (1:Int)=0 then s else s)=s by split<;>rfl]
  exact G8 m B s vv tv lv fv tt a b n g w h hB
theorem Dm (V:Int)(f:Nat)(c:List Ins)(s:St)(hp:ProgOk V f c)(hr:RunOk V f c s)(i:Ins)(hi:bB V f c.length i=0)(s':St)(ha:s'.at_=s.at_)(hvs:i.k=15→s'.vars=s.vars)(m B:Nat)(vv tv lv:Value)(fv:List Value)(w:World)(h:OwnRun w B m s' vv tv lv fv):
  Calls pG 87 #[Pp (sO ⟨m,0,nO⟩),Ag #[I Y i.k,I Y i.tgt,I Y i.a,I Y i.b,I Y i.n,I Y i.g]] w λe w'=>e=Rt (I Y (dg s i (aOf s i)))∧Below w.heap.size w w':=by
 have hA:=rL hr hi
 have h0:=hr.at0
 have h1:=hr.at1
 have hl:=hp.len
 obtain⟨p1,p2,p3,p4,p5,p6,p7,p8,p9⟩:=bd hi
 by_cases k16:i.k=16
 ·have e:dg s i (aOf s i)=i.g:=by unfold dg;rw[if_pos (.inl k16)]
  rw[e,k16]
  exact BQ m _ _ _ _ _ w
 by_cases k15:i.k=15
 ·have hn:nA i.k=true:=by rw[k15];rfl
  obtain⟨x,hx⟩:=j1 (p3 hn).1
  have hv:=hr.vars
  have hxl:x < s.vars.length:=by have:=(p3 hn).2;omega
  have hvx:=hvs k15
  have hxl':x < s'.vars.length:=by rw[hvx];exact hxl
  have ea:aOf s i=s.vars[x]:=by unfold aOf;rw[hn,if_pos rfl,hx];exact gH hxl
  have ev:s'.vars[x]=s.vars[x]:=by simp only[hvx]
  rw[ea] at hA ⊢
  have e:dg s i s.vars[x]=bif cnt s.vars[x] then i.g else s.at_+1:=by
   unfold dg
   cases hc:cnt s.vars[x]<;>simp[k15,k16,hc]
  rw[e,k15,hx]
  have:=FN m B x s' vv tv lv fv i.tgt i.b i.n i.g w h hxl' _ (by rw[ev];exact hA) (by omega) (by omega)
  rw[ev,ha] at this
  exact this
 ·have e:dg s i (aOf s i)=s.at_+1:=by unfold dg;rw[if_neg (by omega)]
  rw[e,←ha]
  exact BF m B s' vv tv lv fv _ _ _ _ _ _ w h k15 k16 (by omega) (by omega)

theorem OwnRun.withAt {w:World}{B m:Nat}{s:St}{vv tv lv:Value}{fv:List Value}(h:OwnRun w B m s vv tv lv fv)(x:Int):OwnRun (w.setCell ⟨m,0,nO⟩ (I Y x)) B m {s with at_:=x} vv tv lv fv:=by
 simpa using h.setM 0 x (by omega)
theorem OwnRun.withFin {w:World}{B m:Nat}{s:St}{vv tv lv:Value}{fv:List Value}(h:OwnRun w B m s vv tv lv fv)(x:Int):OwnRun (w.setCell ⟨m,5,nO⟩ (I Y x)) B m {s with fin:=x} vv tv lv fv:=by
 simpa using h.setM 5 x (by omega)
theorem yM (F:Int)(ins:List Int)(s:St)(i:Ins)(A C:Val)(h:i.k=15):bS F ins s i A C=s:=by
 obtain⟨k,t,a,b,n,g⟩:=i
 simp only at h
 subst h
 rfl
theorem yg (m B:Nat)(s:St)(vv tv lv:Value)(fv:List Value)(w:World)(h:OwnRun w B m s vv tv lv fv)(hf:s.fin≠0):
  Calls pG 46 #[Pp (sO ⟨m,0,nO⟩)] w λe w'=>e=Rt (Tu #[])∧MStep w w' B m (ae m vv tv lv fv) s:=by
 have q5:=h.fin_
 have b5:(s.fin !=0)=true:=by simpa using hf
 have HX:=aD h
 clear h
 go_enter Tryz.func46,Tryz.ntmps46
 go_wp2
 first|go_ret|go_end0|refine bodyPost_ret (results_none rfl _ _ _) rfl ?_
 exact⟨rfl,⟨_,_,_,_,HX.out⟩,bR _ _,λj _=>rfl,λk _ _=>rfl⟩
theorem Ah (m B:Nat)(s:St)(vv tv lv:Value)(fv:List Value)(n cc:Nat)(cs:Option Addr)(w:World)(h:OwnRun w B m s vv tv lv fv)(hf:s.fin=0)(ha:s.at_=(n:Int))(h8:w.cell? ⟨m,8,nO⟩=sO (U cs n cc)):
  Calls pG 46 #[Pp (sO ⟨m,0,nO⟩)] w λe w'=>e=Rt (Tu #[])∧MStep w w' B m (ae m vv tv lv fv) {s with fin:=1}:=by
 have q5:=h.fin_
 rw[hf] at q5
 have q0:=h.at_
 rw[ha] at q0
 have d5:=h.thaw 5
 have HX:=aD h
 clear h
 go_enter Tryz.func46,Tryz.ntmps46
 go_wp2
 go_quiet (fail)
 go_wp2
 first|go_ret|go_end0|refine bodyPost_ret (results_none rfl _ _ _) rfl ?_
 have hb:=below_drewN (bR w.heap.size w) nq
 exact⟨rfl,⟨_,_,_,_,(HX.out.below hb).withFin 1⟩,(hb.mono (Nat.le_of_lt (Nat.lt_of_le_of_lt HX.out.low (HX.out.lt (k:=m) (by simp[ae]))))).setCell HX.out.low _,λj hj=>by rw[q9 _ _ _ _ (by intro e;cases e;omega)];exact hb.cell (by simpa using HX.out.lt (k:=m) (by simp[ae])),cE (cH hb) hb.size (iD (by simp[ae]) _ _)⟩
theorem DX (V:Int)(f:Nat)(c:List Ins)(s:St)(hp:ProgOk V f c)(hr:RunOk V f c s)(ins:List Int)(m B:Nat)(vv tv lv:Value)(fv:List Value)(cs:Option Addr)(cc:Nat)(is:Option Addr)(ic:Nat)(w:World)
  (h:OwnRun w B m s vv tv lv fv)(hB:B≤w.heap.size)(h7:w.cell? ⟨m,7,nO⟩=sO (I Y f))(h8:w.cell? ⟨m,8,nO⟩=sO (U cs c.length cc))(h9:w.cell? ⟨m,9,nO⟩=sO (U is ins.length ic))(hC:CodeAt w cs c)(hI:IntsAt w is ins)(hT:Tab w)(hln:(s.lines.length+1) * 16≤140737488355328)(hf:s.fin=0)(k:Nat)(ha:s.at_=(k:Int))(hk:k < c.length):
  Calls pG 46 #[Pp (sO ⟨m,0,nO⟩)] w λe w'=>e=Rt (Tu #[])∧MStep w w' B m (ae m vv tv lv fv) (bk f c ins s):=by
 have hm:m < w.heap.size:=h.lt (by simp[ae])
 have q5:=h.fin_
 rw[hf] at q5
 have q0:=h.at_
 rw[ha] at q0
 have HIA:aZ c (k:Int)=c[k]:=oR hk
 have hi:bB V f c.length c[k]=0:=hp.each _ (gM hk)
 have HST:=aD (gL f c ins s)
 rw[ha,HIA,if_neg (by omega),if_neg (by omega)] at HST
 have HEA:=aD (oJ f ins s c[k] (aOf s c[k]) (bOf s c[k]))
 have HEFF:=aD (tq f ins s c[k] (aOf s c[k]) (bOf s c[k]))
 have HV15:=aD (yM f ins s c[k] (aOf s c[k]) (bOf s c[k]))
 rcases hC with hC|⟨b,off,rfl,hb,hC⟩
 ·rw[hC] at hk;simp at hk
 obtain⟨i0,i1,i2,i3,i4,i5⟩:=hC k hk
 have n0:(0:Int)≤(k:Int):=by omega
 have n1:(k:Int) < (c.length:Int):=by omega
 have nk:((k:Int)==(c.length:Int))=false:=by simp;omega
 have K1:∀wx,Below w.heap.size w wx→wx.cell? ⟨m,8,nO⟩=sO (U (sO ⟨b,off,nO⟩) c.length cc)∧wx.cell? ⟨m,0,nO⟩=sO (I Y k)∧wx.cell? ⟨b,off+k * 6,nO⟩=sO (I Y c[k].k)∧wx.cell? ⟨b,off+k * 6+1,nO⟩=sO (I Y c[k].tgt)∧wx.cell? ⟨b,off+k * 6+2,nO⟩=sO (I Y c[k].a)∧wx.cell? ⟨b,off+k * 6+3,nO⟩=sO (I Y c[k].b)∧wx.cell? ⟨b,off+k * 6+4,nO⟩=sO (I Y c[k].n)∧wx.cell? ⟨b,off+k * 6+5,nO⟩=sO (I Y c[k].g):=λwx hx=>⟨by rw[hx.cell (by simpa using hm)];exact h8,by rw[hx.cell (by simpa using hm)];exact q0,by rw[hx.cell (by simpa using hb)];exact i0,by rw[hx.cell (by simpa using hb)];exact i1,by rw[hx.cell (by simpa using hb)];exact i2,by rw[hx.cell (by simpa using hb)];exact i3,by rw[hx.cell (by simpa using hb)];exact i4,by rw[hx.cell (by simpa using hb)];exact i5⟩
 clear hC i0 i1 i2 i3 i4 i5 HIA
 go_enter Tryz.func46,Tryz.ntmps46
 go_wp2
 go_quiet (fail)
 go_wp2
 have HB0:Below w.heap.size w (w.drewN nq).drew:=(below_drewN (bR _ _) _).drew
 have hz0:(w.drewN nq).drew.heap.size=w.heap.size:=rfl
 refine an (S:=(λwx=>wx.cell? ⟨m,8,nO⟩=sO (U (sO ⟨b,off,nO⟩) c.length cc)∧wx.cell? ⟨m,0,nO⟩=sO (I Y k)∧wx.cell? ⟨b,off+k * 6,nO⟩=sO (I Y c[k].k)∧wx.cell? ⟨b,off+k * 6+1,nO⟩=sO (I Y c[k].tgt)∧wx.cell? ⟨b,off+k * 6+2,nO⟩=sO (I Y c[k].a)∧wx.cell? ⟨b,off+k * 6+3,nO⟩=sO (I Y c[k].b)∧wx.cell? ⟨b,off+k * 6+4,nO⟩=sO (I Y c[k].n)∧wx.cell? ⟨b,off+k * 6+5,nO⟩=sO (I Y c[k].g))) [] (by kernel_rfl) (K1 _ HB0) (λhHeld=> ?_)
 refine vZ 0 ?_ ?_
 refine vZ 1 ?_ ?_
 refine vZ 2 ?_ ?_
 refine vZ 3 ?_ ?_
 refine vZ 4 ?_ ?_
 refine vZ 5 ?_ ?_
 refine vZ 6 ?_ ?_
 refine vZ 7 ?_ ?_
 refine vZ 8 ?_ ?_
 refine vZ 9 ?_ ?_
 refine vZ 10 ?_ ?_
 refine vZ 11 ?_ ?_
 generalize (w.drewN nq).drew=wq at *
 refine ai (i:=12) rfl (by kernel_rfl) (λK hK=> ?_)
 go_simp
 have HB1:Below w.heap.size w (wq.alloc (Cc #[I Y 0,I Y 0,I Y 0,I Y 0,I Y 0,I Y 0] 100)):=HB0.alloc (by omega) _
 refine hK.out _ _ (K1 _ HB1) (λhHeld=> ?_)
 clear hK K
 refine sm ?_
 refine ai (i:=13) rfl (by kernel_rfl) (λK hK=> ?_)
 go_simp
 have HB2:Below w.heap.size w (wq.alloc (Cc #[I Y c[k].k,I Y c[k].tgt,I Y c[k].a,I Y c[k].b,I Y c[k].n,I Y c[k].g] 100)):=HB0.alloc (by omega) _
 refine hK.out _ _ (K1 _ HB2) (λhHeld=> ?_)
 clear hK K
 refine sm ?_
 refine aj (by kernel_rfl) ?_ _
 (try rw[hz0])
 have c0:(wq.alloc (Cc #[I Y c[k].k,I Y c[k].tgt,I Y c[k].a,I Y c[k].b,I Y c[k].n,I Y c[k].g] 100)).cell? ⟨w.heap.size,0,nO⟩=sO (I Y c[k].k):=by rw[←hz0];simp[go_sem]
 have c1:(wq.alloc (Cc #[I Y c[k].k,I Y c[k].tgt,I Y c[k].a,I Y c[k].b,I Y c[k].n,I Y c[k].g] 100)).cell? ⟨w.heap.size,1,nO⟩=sO (I Y c[k].tgt):=by rw[←hz0];simp[go_sem]
 have c2:(wq.alloc (Cc #[I Y c[k].k,I Y c[k].tgt,I Y c[k].a,I Y c[k].b,I Y c[k].n,I Y c[k].g] 100)).cell? ⟨w.heap.size,2,nO⟩=sO (I Y c[k].a):=by rw[←hz0];simp[go_sem]
 have c3:(wq.alloc (Cc #[I Y c[k].k,I Y c[k].tgt,I Y c[k].a,I Y c[k].b,I Y c[k].n,I Y c[k].g] 100)).cell? ⟨w.heap.size,3,nO⟩=sO (I Y c[k].b):=by rw[←hz0];simp[go_sem]
 have c4:(wq.alloc (Cc #[I Y c[k].k,I Y c[k].tgt,I Y c[k].a,I Y c[k].b,I Y c[k].n,I Y c[k].g] 100)).cell? ⟨w.heap.size,4,nO⟩=sO (I Y c[k].n):=by rw[←hz0];simp[go_sem]
 have c5:(wq.alloc (Cc #[I Y c[k].k,I Y c[k].tgt,I Y c[k].a,I Y c[k].b,I Y c[k].n,I Y c[k].g] 100)).cell? ⟨w.heap.size,5,nO⟩=sO (I Y c[k].g):=by rw[←hz0];simp[go_sem]
 have hzd:w.heap.size < (wq.alloc (Cc #[I Y c[k].k,I Y c[k].tgt,I Y c[k].a,I Y c[k].b,I Y c[k].n,I Y c[k].g] 100)).heap.size:=by simp[hz0]
 clear hHeld K1 HB0 HB1
 generalize wq.alloc (Cc #[I Y c[k].k,I Y c[k].tgt,I Y c[k].a,I Y c[k].b,I Y c[k].n,I Y c[k].g] 100)=wd at *
 have oD:=h.below HB2
 have HD:=aD (Fv V f c s hp hr c[k] hi ins m B vv tv lv fv is ic wd oD (lT hB HB2.size) (by rw[HB2.cell (by simpa using hm)];exact h7) (by rw[HB2.cell (by simpa using hm)];exact h9) (hI.below HB2 (lR _)) (hT.below HB2) hln)
 have nbx:sO w.heap.size∉ae m vv tv lv fv:=λe=>J5 _ (h.lt e)
 unfold A8 at HD
 generalize ft s c[k]=ee at *
 generalize hEF:bS f ins s c[k] (aOf s c[k]) (bOf s c[k])=ef at *
 clear hEF
 go_wp2_with (go_at_call 86;fail)
 refine HD.out.mono ?_
 rintro e w1 ⟨rfl,⟨vv1,tv1,lv1,fv1,o1⟩,M2,M3,M4⟩
 clear HD
 have bx:=M4 w.heap.size hzd nbx
 have x0:w1.cell? ⟨w.heap.size,0,nO⟩=sO (I Y c[k].k):=by rw[j5 (a:=⟨w.heap.size,0,nO⟩) bx];exact c0
 have x1:w1.cell? ⟨w.heap.size,1,nO⟩=sO (I Y c[k].tgt):=by rw[j5 (a:=⟨w.heap.size,1,nO⟩) bx];exact c1
 have x2:w1.cell? ⟨w.heap.size,2,nO⟩=sO (I Y c[k].a):=by rw[j5 (a:=⟨w.heap.size,2,nO⟩) bx];exact c2
 have x3:w1.cell? ⟨w.heap.size,3,nO⟩=sO (I Y c[k].b):=by rw[j5 (a:=⟨w.heap.size,3,nO⟩) bx];exact c3
 have x4:w1.cell? ⟨w.heap.size,4,nO⟩=sO (I Y c[k].n):=by rw[j5 (a:=⟨w.heap.size,4,nO⟩) bx];exact c4
 have x5:w1.cell? ⟨w.heap.size,5,nO⟩=sO (I Y c[k].g):=by rw[j5 (a:=⟨w.heap.size,5,nO⟩) bx];exact c5
 clear c0 c1 c2 c3 c4 c5 bx
 have r5:=o1.fin_
 have d5:=o1.thaw 5
 have hm1:m < w1.heap.size:=o1.lt (by simp[ae])
 have hne:m≠w.heap.size:=by omega
 have HM:Below B w w1:=(HB2.mono hB).trans M2
 have HF:Hid (∀k,k < w.heap.size→sO k∉ae m vv tv lv fv→w1.heap[k]? =w.heap[k]?):=cE (cH HB2) HB2.size M4
 have HC6:Hid (∀j,6≤j→w1.cell? ⟨m,j,nO⟩=w.cell? ⟨m,j,nO⟩):=λj hj=>by rw[M3 j hj];exact HB2.cell hm
 have hBm:B≤m:=h.low
 clear M2 M3 M4 oD h
 by_cases he:ee=0
 ·subst he
  simp only[if_true] at o1 r5
  have oF:=o1.withFin 0
  have HN:=aD (λ(wx:World) (vv tv lv:Value) (fv:List Value) (hx:OwnRun wx B m {ef with fin:=0} vv tv lv fv)=>Dm V f c s hp hr c[k] hi {ef with fin:=0} HEA.out (λh15=>by show ef.vars=s.vars;rw[HV15.out h15]) m B vv tv lv fv wx hx)
  have HQ:Hid (bk f c ins s={ef with at_:=dg s c[k] (aOf s c[k])}):=by
   have:=HST.out
   rw[if_neg (by simp)] at this
   exact this
  clear HST HV15
  go_wp2_with (go_at_call 87;fail)
  refine(HN.out _ vv1 tv1 lv1 fv1 oF).mono ?_
  rintro e w2 ⟨rfl,hb2⟩
  have o2:=oF.below hb2
  have r0:=o2.at_
  have d0:=o2.thaw 0
  have hz2:(w1.setCell ⟨m,5,nO⟩ (I Y 0)).heap.size=w1.heap.size:=by simp[j6]
  clear HN
  go_wp2
  first|go_ret|go_end0|refine bodyPost_ret (results_none rfl _ _ _) rfl ?_
  rw[HQ.out]
  have oZ:=o2.withAt (dg s c[k] (aOf s c[k]))
  have eZ:({({ef with fin:=0}:St) with at_:=dg s c[k] (aOf s c[k])}:St)={ef with at_:=dg s c[k] (aOf s c[k])}:=by
   have hff:ef.fin=0:=by rw[HEFF.out];exact hf
   cases ef
   simp only at hff
   subst hff
   rfl
  rw[eZ] at oZ
  refine⟨rfl,⟨_,_,_,_,oZ⟩,Below.setCell (Below.trans (HM.setCell hBm _) (hb2.mono (by rw[hz2];exact lT hBm (Nat.le_of_lt hm1)))) hBm _,λj hj=> ?_,?_⟩
  ·rw[q9 _ _ _ _ (by intro e;cases e;omega),hb2.cell (by rw[hz2];exact hm1),q9 _ _ _ _ (by intro e;cases e;omega)]
   exact HC6.out j hj
  ·refine cE HF.out HM.size (cE (iD (by simp[ae]) _ _) (by rw[hz2];exact lR _) (cE (cH hb2) hb2.size (iD (by simp[ae]) _ _)))
 ·simp only[he,if_false] at o1 r5
  have bee:(ee==0)=false:=by simpa using he
  have oF:=o1.withFin ee
  have HQ:Hid (bk f c ins s={s with fin:=ee}):=by
   have:=HST.out
   rw[if_pos he,←ha] at this
   exact this
  have HX:=aD oF
  clear HST HV15 oF o1
  go_wp2
  first|go_ret|go_end0|refine bodyPost_ret (results_none rfl _ _ _) rfl ?_
  rw[HQ.out]
  refine⟨rfl,⟨_,_,_,_,HX.out⟩,HM.setCell hBm _,λj hj=> ?_,cE HF.out HM.size (iD (by simp[ae]) _ _)⟩
  rw[q9 _ _ _ _ (by intro e;cases e;omega)]
  exact HC6.out j hj
theorem s8 (V:Int)(f:Nat)(c:List Ins)(s:St)(hp:ProgOk V f c)(hr:RunOk V f c s)(ins:List Int)(m B:Nat)(vv tv lv:Value)(fv:List Value)(cs:Option Addr)(cc:Nat)(is:Option Addr)(ic:Nat)(w:World)
  (h:OwnRun w B m s vv tv lv fv)(hB:B≤w.heap.size)(h7:w.cell? ⟨m,7,nO⟩=sO (I Y f))(h8:w.cell? ⟨m,8,nO⟩=sO (U cs c.length cc))(h9:w.cell? ⟨m,9,nO⟩=sO (U is ins.length ic))(hC:CodeAt w cs c)(hI:IntsAt w is ins)(hT:Tab w)(hln:(s.lines.length+1) * 16≤140737488355328):
  Calls pG 46 #[Pp (sO ⟨m,0,nO⟩)] w λe w'=>e=Rt (Tu #[])∧MStep w w' B m (ae m vv tv lv fv) (bk f c ins s):=by
 by_cases hf:s.fin=0
 ·by_cases ha:s.at_=c.length
  ·have e:bk f c ins s={s with fin:=1}:=by rw[gL,if_neg (by omega),if_pos ha]
   rw[e]
   exact Ah m B s vv tv lv fv c.length cc cs w h hf ha h8
  ·obtain⟨k,hk⟩:=j1 hr.at0
   have:=hr.at1
   exact DX V f c s hp hr ins m B vv tv lv fv cs cc is ic w h hB h7 h8 h9 hC hI hT hln hf k hk (by omega)
 ·have e:bk f c ins s=s:=by rw[gL,if_pos hf]
  rw[e]
  exact yg m B s vv tv lv fv w h hf
structure RunRound (w0 wr:World) (m:Nat) (v f:Nat) (c:List Ins) (ins:List Int) (fuel k:Nat) (st:St) (s:Option Addr) (cap:Nat) (is:Option Addr) (ic:Nat):Prop where
 own:∃vv tv lv fv,OwnRun wr w0.heap.size m st vv tv lv fv
 low:Below w0.heap.size w0 wr
 c7:wr.cell? ⟨m,7,nO⟩=sO (I Y f)
 c8:wr.cell? ⟨m,8,nO⟩=sO (U s c.length cap)
 c9:wr.cell? ⟨m,9,nO⟩=sO (U is ins.length ic)
 ok:RunOk v f c st
 le:k≤fuel
 rel:stepsSt f c ins fuel (aR v)=((stepsSt f c ins (fuel - k) st).1,(stepsSt f c ins (fuel - k) st).2+k)
 lines:st.lines.length≤k
 taken:st.taken≤k
theorem RunRound.next {w0 wr w':World}{m v f:Nat}{c:List Ins}{ins:List Int}{fuel k:Nat}{st:St}{s:Option Addr}{cap:Nat}{is:Option Addr}{ic:Nat}{bs:List (Option Nat)}(h:RunRound w0 wr m v f c ins fuel k st s cap is ic)(hp:ProgOk v f c)(hf:st.fin=0)(hk:k < fuel)(hf5:fuel≤5000)(hs:MStep wr w' w0.heap.size m bs (bk f c ins st)):RunRound w0 w' m v f c ins fuel (k+1) (bk f c ins st) s cap is ic:=by
 have ht:=h.taken
 have hl:=h.lines
 refine⟨hs.1,h.low.trans hs.2.1,by rw[hs.2.2.1 7 (by omega)];exact h.c7,by rw[hs.2.2.1 8 (by omega)];exact h.c8,by rw[hs.2.2.1 9 (by omega)];exact h.c9,nh ins hp h.ok (by omega),hk,?_,?_,?_⟩
 ·rw[h.rel,show fuel - k=(fuel - (k+1))+1 by omega,rK hf]
  simp only[Prod.mk.injEq,true_and]
  omega
 ·have:=uL f c ins st;omega
 ·have:=mW f c ins st h.ok.tk (by omega);omega
theorem yI (v f:Nat)(s:Option Addr)(c:List Ins)(cap:Nat)(is:Option Addr)(ic:Nat)(ins:List Int)(fuel:Nat)(w:World)(hc:CodeAt w s c)(hI:IntsAt w is ins)(hT:Tab w)(h0:ag v f c=0)(hf5:fuel≤5000):
  Calls pG 19 #[Ag #[I Y (v:Int),I Y (f:Int),U s c.length cap],U is ins.length ic,I Y (fuel:Int)] w λe w'=>∃vv tv lv fv,e=Rt (Tu #[Ag #[I Y (bH v f c ins fuel).1.at_,vv,tv,I Y (bH v f c ins fuel).1.taken,lv,I Y (bH v f c ins fuel).1.fin],I Y (bH v f c ins fuel).2,I Y 0])∧OwnRows w' w.heap.size (bH v f c ins fuel).1 vv tv lv fv∧RunOk v f c (bH v f c ins fuel).1∧(bH v f c ins fuel).1.lines.length≤5000∧Below w.heap.size w w':=by
 have hp:=bM h0
 have hv8:v≤8:=by have:=hp.v8;omega
 have hb0:Below w.heap.size w ((w.alloc (Cc #[I Y (v:Int),I Y (f:Int),U s c.length cap] 24)).alloc (Cc #[I Y 0,U nO 0 0,U nO 0 0,I Y 0,U nO 0 0,I Y 0] 33)):=by go_grown
 have Z0:=R6.new (w.alloc (Cc #[I Y (v:Int),I Y (f:Int),U s c.length cap] 24)) 33 (I Y 0) (U nO 0 0) (U nO 0 0) (I Y 0) (U nO 0 0) (I Y 0)
 rw[j3] at Z0
 have hc0:=hc.below hb0 (lR _)
 have hI0:=hI.below hb0 (lR _)
 have hT0:=hT.below hb0
 have HB:=aD (o3 v f s c cap ((w.alloc (Cc #[I Y (v:Int),I Y (f:Int),U s c.length cap] 24)).alloc (Cc #[I Y 0,U nO 0 0,U nO 0 0,I Y 0,U nO 0 0,I Y 0] 33)) hc0 h0)
 have p0:((w.alloc (Cc #[I Y (v:Int),I Y (f:Int),U s c.length cap] 24)).alloc (Cc #[I Y 0,U nO 0 0,U nO 0 0,I Y 0,U nO 0 0,I Y 0] 33)).cell? ⟨w.heap.size,0,nO⟩=sO (I Y v):=by simp[go_sem]
 have p1:((w.alloc (Cc #[I Y (v:Int),I Y (f:Int),U s c.length cap] 24)).alloc (Cc #[I Y 0,U nO 0 0,U nO 0 0,I Y 0,U nO 0 0,I Y 0] 33)).cell? ⟨w.heap.size,1,nO⟩=sO (I Y f):=by simp[go_sem]
 have p2:((w.alloc (Cc #[I Y (v:Int),I Y (f:Int),U s c.length cap] 24)).alloc (Cc #[I Y 0,U nO 0 0,U nO 0 0,I Y 0,U nO 0 0,I Y 0] 33)).cell? ⟨w.heap.size,2,nO⟩=sO (U s c.length cap):=by simp[go_sem]
 have hzw:((w.alloc (Cc #[I Y (v:Int),I Y (f:Int),U s c.length cap] 24)).alloc (Cc #[I Y 0,U nO 0 0,U nO 0 0,I Y 0,U nO 0 0,I Y 0] 33)).heap.size=w.heap.size+1+1:=by simp
 have HQ:=aD hp
 clear hc hI hT h0 hp
 go_enter Tryz.func19,Tryz.ntmps19
 go_wp2_with (go_at_call 40;fail)
 generalize ((w.alloc (Cc #[I Y (v:Int),I Y (f:Int),U s c.length cap] 24)).alloc (Cc #[I Y 0,U nO 0 0,U nO 0 0,I Y 0,U nO 0 0,I Y 0] 33))=w0 at *
 refine HB.out.mono ?_
 rintro e w1 ⟨g,rfl,hown,hb1⟩
 clear HB
 rw[nv v hv8] at hown
 have hz1:w0.heap.size≤w1.heap.size:=hb1.size
 have H2:Below w0.heap.size w0 (w1.alloc (Cc #[I Y 0,U (sO ⟨g,0,nO⟩) v v,U nO 0 0,I Y 0,U nO 0 0,I Y 0] 33)):=hb1.alloc hz1 _
 have H3:Below w0.heap.size w0 ((w1.alloc (Cc #[I Y 0,U (sO ⟨g,0,nO⟩) v v,U nO 0 0,I Y 0,U nO 0 0,I Y 0] 33)).alloc (Cc #[I Y 0,U (sO ⟨g,0,nO⟩) v v,U nO 0 0,I Y 0,U nO 0 0,I Y 0,I Y v,I Y f,U s c.length cap,U is ins.length ic] 98)):=H2.alloc (by simp;omega) _
 have R1:=pm hv8 hown
 have R3:=R1.below (w':=(w1.alloc (Cc #[I Y 0,U (sO ⟨g,0,nO⟩) v v,U nO 0 0,I Y 0,U nO 0 0,I Y 0] 33)).alloc (Cc #[I Y 0,U (sO ⟨g,0,nO⟩) v v,U nO 0 0,I Y 0,U nO 0 0,I Y 0,I Y v,I Y f,U s c.length cap,U is ins.length ic] 98)) (by go_grown)
 have C3:o4 ((w1.alloc (Cc #[I Y 0,U (sO ⟨g,0,nO⟩) v v,U nO 0 0,I Y 0,U nO 0 0,I Y 0] 33)).alloc (Cc #[I Y 0,U (sO ⟨g,0,nO⟩) v v,U nO 0 0,I Y 0,U nO 0 0,I Y 0,I Y v,I Y f,U s c.length cap,U is ins.length ic] 98)) (w1.heap.size+1) (aR v) (U (sO ⟨g,0,nO⟩) v v) (U nO 0 0) (U nO 0 0):=by
  refine⟨⟨?_,?_,?_,?_,?_,?_⟩,λj=> ?_⟩<;>simp[go_sem,aR]
 have O3:=R3.run' C3 (by omega) (λhm=>by have:=(R1.lt hm).1;omega)
 have RR:RunRound w0 ((w1.alloc (Cc #[I Y 0,U (sO ⟨g,0,nO⟩) v v,U nO 0 0,I Y 0,U nO 0 0,I Y 0] 33)).alloc (Cc #[I Y 0,U (sO ⟨g,0,nO⟩) v v,U nO 0 0,I Y 0,U nO 0 0,I Y 0,I Y v,I Y f,U s c.length cap,U is ins.length ic] 98)) (w1.heap.size+1) v f c ins fuel 0 (aR v) s cap is ic:=
  ⟨⟨_,_,_,_,O3⟩,H3,by simp[go_sem],by simp[go_sem],by simp[go_sem],lK HQ.out,j8 _,by simp,by simp[aR],by simp[aR]⟩
 have nf0:¬((fuel:Int) < 0):=by omega
 have hl0:w.heap.size < w1.heap.size:=by omega
 have hl1:w.heap.size+1 < w1.heap.size:=by omega
 have nf5:¬(5000 < (fuel:Int)):=by omega
 have q0:w1.cell? ⟨w.heap.size,0,nO⟩=sO (I Y v):=by rw[hb1.cell (by simp;omega)];exact p0
 have q1:w1.cell? ⟨w.heap.size,1,nO⟩=sO (I Y f):=by rw[hb1.cell (by simp;omega)];exact p1
 have q2:w1.cell? ⟨w.heap.size,2,nO⟩=sO (U s c.length cap):=by rw[hb1.cell (by simp;omega)];exact p2
 have HRR:=aD RR
 clear R1 R3 C3 O3 H2 H3 hown p0 p1 p2 RR
 go_wp2

 generalize (w1.alloc (Cc #[I Y 0,U (sO ⟨g,0,nO⟩) v v,U nO 0 0,I Y 0,U nO 0 0,I Y 0] 33)).alloc (Cc #[I Y 0,U (sO ⟨g,0,nO⟩) v v,U nO 0 0,I Y 0,U nO 0 0,I Y 0,I Y v,I Y f,U s c.length cap,U is ins.length ic] 98)=w3 at *
 go_loopw [12] (λi wr=>∃(k:Nat) (st:St),i=I Y k∧RunRound w0 wr (w1.heap.size+1) v f c ins fuel k st s cap is ic) (λi _=>fuel - (intOf i).toNat)
 case atStart=>exact⟨0,_,rfl,HRR.out⟩
 case round=>
  obtain⟨k,st,rfl,hR⟩:=hrel
  obtain⟨vv,tv,lv,fv,O⟩:=hR.own
  obtain⟨vs,vc,ts,tc,ls,lc,rfl,rfl,rfl,-⟩:=O.rows.at
  have l5:=O.fin_
  have hkf:=hR.le
  by_cases hfin:st.fin=0
  ·by_cases hlt:k < fuel
   ·have n1:(k:Int) < (fuel:Int):=by omega
    rw[hfin] at l5
    have HS:=aD (s8 v f c st HQ.out hR.ok ins (w1.heap.size+1) w0.heap.size (U vs st.vars.length vc) (U ts st.things.length tc) (U ls st.lines.length lc) fv s cap is ic wr O hR.low.size hR.c7 hR.c8 hR.c9 (hc0.below hR.low (lR _)) (hI0.below hR.low (lR _)) (hT0.below hR.low) (by have:=hR.lines;omega))
    have HN:=aD (λ(w':World) (bs:List (Option Nat)) (hs:MStep wr w' w0.heap.size (w1.heap.size+1) bs (bk f c ins st))=>hR.next HQ.out hfin hlt hf5 hs)
    clear O hR
    go_wp2_with (go_at_call 46;fail)
    refine HS.out.mono ?_
    rintro e w5 ⟨rfl,hms⟩
    have HR5:=aD (HN.out _ _ hms)
    clear HS HN hms
    go_wp2
    go_roundw
    case rel=>exact⟨k+1,_,by go_num,HR5.out⟩
    case measure=>simp[intOf];omega
   ·have hkk:k=fuel:=by omega
    subst hkk
    rw[hfin] at l5
    have HX:=aD (And.intro O hR)
    have HE:Hid (bH v f c ins k=({st with fin:=4},k)):=by
     show _=_
     rw[uB (s:=st) (k:=k) (by rw[hR.rel,Nat.sub_self,fR (.inl rfl)];simp),if_pos hfin]
    have d5:=O.thaw 5
    have O4:=O.withFin 4
    have Z5:=((Z0.below hR.low Z0.2.1).same (w':=wr.setCell ⟨w1.heap.size+1,5,nO⟩ (I Y 4)) (hSe _ _ _ _ (by simp;omega)) (by simp[j6]))
    obtain⟨⟨r0,r1,r2,r3,r4,r5⟩,rz,rf⟩:=id (Z0.below hR.low Z0.2.1)
    have g0:=rf 0
    have g1:=rf 1
    have g2:=rf 2
    have g3:=rf 3
    have g4:=rf 4
    have g5:=rf 5
    obtain⟨⟨m0,m1,m2,m3,m4,m5⟩,mz,mf⟩:=id O.r6
    rw[hfin] at m5
    have hbne:w.heap.size≠w1.heap.size:=by omega
    have hbne':w1.heap.size≠w.heap.size:=by omega
    have Z6:=Z5.put (I Y st.at_) (U vs st.vars.length vc) (U ts st.things.length tc) (I Y st.taken) (U ls st.lines.length lc) (I Y 4)
    obtain⟨⟨s0,s1,s2,s3,s4,s5⟩,sz,sf⟩:=id Z6
    have R6':=(O4.rows.set6 (b:=w.heap.size+1) (by omega) (I Y st.at_) (U vs st.vars.length vc) (U ts st.things.length tc) (I Y st.taken) (U ls st.lines.length lc) (I Y 4)).down (show w.heap.size≤w0.heap.size by omega)
    have HL:Below w.heap.size w (fF (wr.setCell ⟨w1.heap.size+1,5,nO⟩ (I Y 4)) (w.heap.size+1) (I Y st.at_) (U vs st.vars.length vc) (U ts st.things.length tc) (I Y st.taken) (U ls st.lines.length lc) (I Y 4)):=eH ((hb0.trans (hR.low.mono (by omega))).setCell (by simp;omega) _) (by omega) _ _ _ _ _ _
    have HY:=aD (And.intro R6' (And.intro HL (hR.ok.finish 4 (by omega) (by omega))))
    have hln:=hR.lines
    clear O hR O4 Z5 Z6 R6' HL HX
    go_wp2
    refine bodyPost_ret (v:=Tu #[Ag #[I Y st.at_,U vs st.vars.length vc,U ts st.things.length tc,I Y st.taken,U ls st.lines.length lc,I Y 4],I Y k,I Y 0]) (by simp[results,Tryz.results19,go_sem,r0,r1,r2,r3,r4,r5]) rfl ?_
    rw[HE.out]
    exact⟨_,_,_,fv,rfl,HY.out.1,HY.out.2.2,by show st.lines.length≤5000;omega,HY.out.2.1⟩
  ·have b5:(st.fin==0)=false:=by simpa using hfin
   have HE:Hid (bH v f c ins fuel=(st,k)):=by
    show _=_
    rw[uB (s:=st) (k:=k) (by rw[hR.rel,fR (.inr hfin)];simp),if_neg hfin]
   have Z5:=Z0.below hR.low Z0.2.1
   obtain⟨⟨r0,r1,r2,r3,r4,r5⟩,rz,rf⟩:=id Z5
   have g0:=rf 0
   have g1:=rf 1
   have g2:=rf 2
   have g3:=rf 3
   have g4:=rf 4
   have g5:=rf 5
   obtain⟨⟨m0,m1,m2,m3,m4,m5⟩,mz,mf⟩:=id O.r6
   have Z6:=Z5.put (I Y st.at_) (U vs st.vars.length vc) (U ts st.things.length tc) (I Y st.taken) (U ls st.lines.length lc) (I Y st.fin)
   obtain⟨⟨s0,s1,s2,s3,s4,s5⟩,sz,sf⟩:=id Z6
   have R6':=(O.rows.set6 (b:=w.heap.size+1) (by omega) (I Y st.at_) (U vs st.vars.length vc) (U ts st.things.length tc) (I Y st.taken) (U ls st.lines.length lc) (I Y st.fin)).down (show w.heap.size≤w0.heap.size by omega)
   have HL:Below w.heap.size w (fF wr (w.heap.size+1) (I Y st.at_) (U vs st.vars.length vc) (U ts st.things.length tc) (I Y st.taken) (U ls st.lines.length lc) (I Y st.fin)):=eH (hb0.trans (hR.low.mono (by omega))) (by omega) _ _ _ _ _ _
   have HY:=aD (And.intro R6' (And.intro HL hR.ok))
   have hln:=hR.lines
   clear O hR Z5 Z6 R6' HL
   go_wp2
   refine bodyPost_ret (v:=Tu #[Ag #[I Y st.at_,U vs st.vars.length vc,U ts st.things.length tc,I Y st.taken,U ls st.lines.length lc,I Y st.fin],I Y k,I Y 0]) (by simp[results,Tryz.results19,go_sem,r0,r1,r2,r3,r4,r5]) rfl ?_
   rw[HE.out]
   exact⟨_,_,_,fv,rfl,HY.out.1,HY.out.2.2,by show st.lines.length≤5000;omega,HY.out.2.1⟩
theorem pP (ss:Option Addr)(sc:Nat)(l:List Val)(w:World)(hs:ValsAt w ss l)(hbig:l.length * 16≤140737488355328):
  Calls pG 83 #[U ss l.length sc] w λe w'=>∃v',e=Rt v'∧w'.ownsRow w.heap.size 82 2 v' l.length (bT l)∧Below w.heap.size w w':=by
 obtain⟨ti,hi,hz0,hz1,hz2⟩:=info_parts oT
 have q:∀(w:World) (a:Option Addr) (n c n' c':Nat),(binOp .eql 29 (U a n c) (U nO n' c')).run pG w=.ok (Bb a.isNone) w:=λw a n c n' c'=>Lib.run_eql_slice_nil w _ _ a n c n' c' Tryz.underlying29
 have HN:=aD (hs.news)
 have h0:=hs.nil
 have hle:l.length≤maxLen:=by unfold maxLen;omega
 cases ss with
 |none=>
  have hz:l.length=0:=h0 rfl
  have HX:Hid ((bT l)=[]):=by
   show _=_
   apply z6
   have:=(gY l)
   omega
  clear HN hle
  go_enter Tryz.func83,Tryz.ntmps83
  go_wp2
  go_ret
  refine⟨_,rfl,?_,bR _ _⟩
  rw[HX.out]
  (try rw[hz])
  exact x6 _ _ _ _
 |some ad=>
  have hbl:Below w.heap.size w (w.alloc (Cc #[] 82)):=by go_grown
  go_enter Tryz.func83,Tryz.ntmps83
  go_wp2_with (at_builtin;refine cF _ rfl _ _ 29 rfl w.heap.size 82 ti (Ag #[I Y 0,I Y 0]) 2 16 Tryz.underlying29 hi hz0 hz1 hz2 rfl (by decide) _ _ _ rfl (x7 w #[] 0 (lR _) (j8 _) rfl) (sO ad) l.length sc (bT l) rfl ?qc1 (λh=>by cases h) ?qc2 ?qc3 ?qc4 ?qc5 ?qc6 ?_)
  case qc1=>exact(gY l)
  case qc2=>
   intro ad' e j u hj
   cases e
   have:=HN.out ad rfl j u hj
   exact Lib.cell?_alloc_some _ this
  case qc3=>exact(DR l)
  case qc4=>simpa using hle
  case qc5=>simpa using hbig
  case qc6=>simp
  intro v' w1 hown hgrow hat
  go_wp2
  go_ret
  refine⟨v',rfl,by simpa using hown,?_⟩
  exact((bR _ w).alloc (lR _) _).grown hgrow (by simp) (by intro k hk;simp[j9] at hk;omega)

theorem AN (ss:Option Addr)(sc:Nat)(l:List ByteArray)(w:World)(hs:StrsAt w ss l)(hbig:l.length * 16≤140737488355328):
  Calls pG 84 #[U ss l.length sc] w λe w'=>∃v',e=Rt v'∧w'.ownsRow w.heap.size 9 1 v' l.length (l.map q7)∧Below w.heap.size w w':=by
 obtain⟨ti,hi,hz0,hz1,hz2⟩:=info_parts uR
 have q:∀(w:World) (a:Option Addr) (n c n' c':Nat),(binOp .eql 31 (U a n c) (U nO n' c')).run pG w=.ok (Bb a.isNone) w:=λw a n c n' c'=>Lib.run_eql_slice_nil w _ _ a n c n' c' Tryz.underlying31
 have HN:=aD (hs.news)
 have h0:=hs.nil
 have hle:l.length≤maxLen:=by unfold maxLen;omega
 cases ss with
 |none=>
  have hz:l.length=0:=h0 rfl
  have HX:Hid ((l.map q7)=[]):=by
   show _=_
   apply z6
   have:=(show (l.map q7).length=l.length * 1 by simp)
   omega
  clear HN hle
  go_enter Tryz.func84,Tryz.ntmps84
  go_wp2
  go_ret
  refine⟨_,rfl,?_,bR _ _⟩
  rw[HX.out]
  (try rw[hz])
  exact x6 _ _ _ _
 |some ad=>
  have hbl:Below w.heap.size w (w.alloc (Cc #[] 9)):=by go_grown
  go_enter Tryz.func84,Tryz.ntmps84
  go_wp2_with (at_builtin;refine cF _ rfl _ _ 31 rfl w.heap.size 9 ti (.string ⟨#[]⟩) 1 16 Tryz.underlying31 hi hz0 hz1 hz2 rfl (by decide) _ _ _ rfl (x7 w #[] 0 (lR _) (j8 _) rfl) (sO ad) l.length sc (l.map q7) rfl ?qc1 (λh=>by cases h) ?qc2 ?qc3 ?qc4 ?qc5 ?qc6 ?_)
  case qc1=>exact(show (l.map q7).length=l.length * 1 by simp)
  case qc2=>
   intro ad' e j u hj
   cases e
   have:=HN.out ad rfl j u hj
   exact Lib.cell?_alloc_some _ this
  case qc3=>exact(Ej l)
  case qc4=>simpa using hle
  case qc5=>simpa using hbig
  case qc6=>simp
  intro v' w1 hown hgrow hat
  go_wp2
  go_ret
  refine⟨v',rfl,by simpa using hown,?_⟩
  exact((bR _ w).alloc (lR _) _).grown hgrow (by simp) (by intro k hk;simp[j9] at hk;omega)

theorem A9 (ss:Option Addr)(sc:Nat)(l:List Int)(fo:List Value)(w:World)(hlen:fo.length=l.length)(hnil:ss=none→l.length=0)(hnews:∀ad,ss=sO ad→∀j u,(bO l fo)[j]? =sO u→w.cell? (ad.add j)=sO u)(hone:∀v∈fo,v.oneCell'=true)(hbig:l.length * 32≤140737488355328):
  Calls pG 85 #[U ss l.length sc] w λe w'=>∃v',e=Rt v'∧w'.ownsRow w.heap.size 84 2 v' l.length (bO l fo)∧Below w.heap.size w w':=by
 obtain⟨ti,hi,hz0,hz1,hz2⟩:=info_parts vC
 have q:∀(w:World) (a:Option Addr) (n c n' c':Nat),(binOp .eql 30 (U a n c) (U nO n' c')).run pG w=.ok (Bb a.isNone) w:=λw a n c n' c'=>Lib.run_eql_slice_nil w _ _ a n c n' c' Tryz.underlying30
 have HN:=aD (hnews)
 have h0:=hnil
 have hle:l.length≤maxLen:=by unfold maxLen;omega
 cases ss with
 |none=>
  have hz:l.length=0:=h0 rfl
  have HX:Hid ((bO l fo)=[]):=by
   show _=_
   apply z6
   have:=(fN l fo hlen)
   omega
  clear HN hle
  go_enter Tryz.func85,Tryz.ntmps85
  go_wp2
  go_ret
  refine⟨_,rfl,?_,bR _ _⟩
  rw[HX.out]
  (try rw[hz])
  exact x6 _ _ _ _
 |some ad=>
  have hbl:Below w.heap.size w (w.alloc (Cc #[] 84)):=by go_grown
  go_enter Tryz.func85,Tryz.ntmps85
  go_wp2_with (at_builtin;refine cF _ rfl _ _ 30 rfl w.heap.size 84 ti (Ag #[I Y 0,U nO 0 0]) 2 32 Tryz.underlying30 hi hz0 hz1 hz2 rfl (by decide) _ _ _ rfl (x7 w #[] 0 (lR _) (j8 _) rfl) (sO ad) l.length sc (bO l fo) rfl ?qc1 (λh=>by cases h) ?qc2 ?qc3 ?qc4 ?qc5 ?qc6 ?_)
  case qc1=>exact(fN l fo hlen)
  case qc2=>
   intro ad' e j u hj
   cases e
   have:=HN.out ad rfl j u hj
   exact Lib.cell?_alloc_some _ this
  case qc3=>exact(uX l fo hone)
  case qc4=>simpa using hle
  case qc5=>simpa using hbig
  case qc6=>simp
  intro v' w1 hown hgrow hat
  go_wp2
  go_ret
  refine⟨v',rfl,by simpa using hown,?_⟩
  exact((bR _ w).alloc (lR _) _).grown hgrow (by simp) (by intro k hk;simp[j9] at hk;omega)
section
variable {w w':World} {b:Nat} {x0 x1 x2 x3 x4 x5:Value}
theorem R6.put1 (h:R6 w b x0 x1 x2 x3 x4 x5)(y:Value):R6 (w.setCell ⟨b,1,nO⟩ y) b x0 y x2 x3 x4 x5:=by
 obtain⟨⟨h0,h1,h2,h3,h4,h5⟩,h6,h7⟩:=h
 exact⟨⟨by rw[aP (by omega)];exact h0,fu h1 _,by rw[aP (by omega)];exact h2,by rw[aP (by omega)];exact h3,by rw[aP (by omega)];exact h4,by rw[aP (by omega)];exact h5⟩,by simpa[j6] using h6,λj=>by rw[x8];exact h7 j⟩
theorem R6.put2 (h:R6 w b x0 x1 x2 x3 x4 x5)(y:Value):R6 (w.setCell ⟨b,2,nO⟩ y) b x0 x1 y x3 x4 x5:=by
 obtain⟨⟨h0,h1,h2,h3,h4,h5⟩,h6,h7⟩:=h
 exact⟨⟨by rw[aP (by omega)];exact h0,by rw[aP (by omega)];exact h1,fu h2 _,by rw[aP (by omega)];exact h3,by rw[aP (by omega)];exact h4,by rw[aP (by omega)];exact h5⟩,by simpa[j6] using h6,λj=>by rw[x8];exact h7 j⟩
theorem R6.put4 (h:R6 w b x0 x1 x2 x3 x4 x5)(y:Value):R6 (w.setCell ⟨b,4,nO⟩ y) b x0 x1 x2 x3 y x5:=by
 obtain⟨⟨h0,h1,h2,h3,h4,h5⟩,h6,h7⟩:=h
 exact⟨⟨by rw[aP (by omega)];exact h0,by rw[aP (by omega)];exact h1,by rw[aP (by omega)];exact h2,by rw[aP (by omega)];exact h3,fu h4 _,by rw[aP (by omega)];exact h5⟩,by simpa[j6] using h6,λj=>by rw[x8];exact h7 j⟩
theorem R6.far (h:R6 w b x0 x1 x2 x3 x4 x5){a:Addr}(ha:a.block≠b)(y:Value):R6 (w.setCell a y) b x0 x1 x2 x3 x4 x5:=h.same (hSe _ _ _ _ (Ne.symm ha)) (by simp[j6])
theorem dm {B:Nat}{e:TypeId}{z:Nat}{v:Value}{n:Nat}{xs:List Value}(h:w.ownsRow B e z v n xs){a:Addr}(ha:v.ownBlock≠sO a.block)(y:Value):(w.setCell a y).ownsRow B e z v n xs:=
 av h (λk hk=>hSe _ _ _ _ (λe=>ha (by rw[hk,e])))
theorem eh {B:Nat}{e:TypeId}{z:Nat}{v:Value}{n:Nat}{xs:List Value}(h:w.ownsRow B e z v n xs)(hb:Below w.heap.size w w'):w'.ownsRow B e z v n xs:=
 av h (λk hk=>hb.block k (aS h hk).1)
theorem dD {B:Nat}{e:TypeId}{z:Nat}{v:Value}{n:Nat}{xs:List Value}(h:w.ownsRow B e z v n xs){k:Nat}(hk:k < B):v.ownBlock≠sO k:=λe=>by have:=(aS h e).2;omega
end
structure CpInv (w wr:World) (r:St) (fo fn:List Value) (vv tv lv:Value):Prop where
 low:Below w.heap.size w wr
 run:R6 wr w.heap.size (I Y r.at_) vv tv (I Y r.taken) lv (I Y r.fin)
 res:R6 wr (w.heap.size+1) (I Y 0) (U nO 0 0) (U nO 0 0) (I Y 0) (U nO 0 0) (I Y 0)
 vars:ValRow wr (w.heap.size+1+1) vv r.vars
 lines:wr.ownsRow (w.heap.size+1+1) 9 1 lv r.lines.length (r.lines.map .string)
 things:wr.ownsRow (w.heap.size+1+1) 84 2 tv r.things.length (bO (r.things.map (·.site)) (fn++fo.drop fn.length))
 le:fn.length≤r.things.length
 old:fo.length=r.things.length
 fields:∀j (h:j < fn.length),ValRow wr (w.heap.size+1+1) fn[j] (r.things[j]'(lL h le)).fs
 apart:(vv.ownBlock::tv.ownBlock::lv.ownBlock::fn.map j9).Pairwise λa b=>∀x,a=sO x→b≠sO x
theorem CpInv.rows {w wr:World}{r:St}{fo fn:List Value}{vv tv lv:Value}(h:CpInv w wr r fo fn vv tv lv)(hn:fn.length=r.things.length):OwnRows wr (w.heap.size+1+1) r vv tv lv fn:=by
 have ht:=h.things
 rw[hn,←h.old,List.drop_length,List.append_nil] at ht
 rw[h.old] at ht
 exact⟨h.vars,ht,hn,λi hi=>h.fields i (by omega),h.lines,h.apart⟩
theorem CpInv.step {w wr w1:World}{r:St}{fo fn:List Value}{vv lv v':Value}{gt tc:Nat}(h:CpInv w wr r fo fn vv (U (sO ⟨gt,0,nO⟩) r.things.length tc) lv)(hlt:fn.length < r.things.length)(hb:Below wr.heap.size wr w1)(hv:ValRow w1 wr.heap.size v' r.things[fn.length].fs):
  CpInv w (w1.setCell ⟨gt,fn.length * 2+1,nO⟩ v') r fo (fn++[v']) vv (U (sO ⟨gt,0,nO⟩) r.things.length tc) lv:=by
 have hap:=h.apart
 simp only[q8] at hap
 obtain⟨a1,a2,a3,a4⟩:=hap
 have gtl:=aS h.things (k:=gt) rfl
 have hz:=h.low.size
 have hrz:=h.run.2.1
 have hsz:=h.res.2.1
 have vlt:∀k,vv.ownBlock=sO k→k < wr.heap.size:=λk hk=>(aS h.vars hk).1
 have llt:∀k,lv.ownBlock=sO k→k < wr.heap.size:=λk hk=>(aS h.lines hk).1
 have flt:∀k,sO k∈fn.map j9→k < wr.heap.size:=λk hk=>by
  obtain⟨x,hx,hxk⟩:=J6.1 hk
  obtain⟨i,hi,rfl⟩:=J7 hx
  exact(aS (h.fields i hi) hxk).1
 have vge:∀k,k < wr.heap.size→v'.ownBlock≠sO k:=λk hk=>dD hv hk
 have ngv:vv.ownBlock≠sO gt:=λe=>a1 (sO gt) (by simp[j9]) gt e rfl
 have ngl:lv.ownBlock≠sO gt:=λe=>a2 lv.ownBlock (by simp) gt rfl e
 have ngf:∀i (hi:i < fn.length),fn[i].ownBlock≠sO gt:=λi hi e=>a2 (sO gt) (by simp only[j4];right;exact J6.2 ⟨_,gM hi,e⟩) gt rfl rfl
 refine⟨(h.low.trans (hb.mono hz)).setCell (by simp only;omega) _,(h.run.call hb).far (by simp only;omega) _,(h.res.call hb).far (by simp only;omega) _,dm (eh h.vars hb) ngv _,dm (eh h.lines hb) ngl _,?_,by simp;omega,h.old,λj hj=> ?_,?_⟩
 ·have ht:=eh h.things hb
  have hs:=(ht.stored (fn.length * 2+1) v').1
  have hfl:(fn++fo.drop fn.length).length=(r.things.map (·.site)).length:=by have:=h.old;have:=h.le;simp;omega
  rw[mM _ _ hfl fn.length (by rw[hfl];simpa using hlt)] at hs
  have e:(fn++fo.drop fn.length).set fn.length v'=(fn++[v'])++fo.drop (fn++[v']).length:=by
   have hd:fo.drop fn.length=fo[fn.length]'(by rw[h.old];exact hlt)::fo.drop (fn.length+1):=List.drop_eq_getElem_cons _
   rw[List.set_append_right _ _ (lR _),Nat.sub_self,hd]
   simp only[List.set_cons_zero,List.length_append,List.length_cons,J8,List.append_assoc,List.cons_append,J9,q6]
  rw[e] at hs
  exact hs
 ·by_cases hj':j < fn.length
  ·have e:(fn++[v'])[j]=fn[j]:=List.getElem_append_left hj'
   rw[e]
   exact dm (eh (h.fields j hj') hb) (ngf j hj') _
  ·have e:j=fn.length:=by simp at hj;omega
   subst e
   have e:(fn++[v'])[fn.length]=v':=by simp
   rw[e]
   exact dm (cM hv (by omega)) (vge gt gtl.1) _
 ·simp only[q8]
  refine⟨λb hb x hx e=> ?_,λb hb x hx e=> ?_,λb hb x hx e=> ?_,?_⟩
  ·simp only[z7,z8,z9,j4,x9,J4,or_false] at hb
   rcases hb with hb|hb|hb|hb
   ·exact a1 b (by simp[hb]) x hx e
   ·exact a1 b (by simp[hb]) x hx e
   ·exact a1 b (by simp only[j4];simp only[hb,or_true]) x hx e
   ·subst hb;exact vge x (vlt x hx) e
  ·simp only[z7,z8,z9,j4,x9,J4,or_false] at hb
   rcases hb with hb|hb|hb
   ·exact a2 b (by simp[hb]) x hx e
   ·exact a2 b (by simp only[j4];simp only[hb,or_true]) x hx e
   ·subst hb
    cases hx
    exact vge gt gtl.1 e
  ·simp only[z7,z8,z9,x9,j4,J4,or_false] at hb
   rcases hb with hb|hb
   ·exact a3 b hb x hx e
   ·subst hb;exact vge x (llt x hx) e
  ·rw[z7]
   refine List.pairwise_append.2 ⟨a4,by simp,λa ha b hb x hx e=> ?_⟩
   simp only[z8,z9,List.mem_singleton] at hb
   subst hb
   subst hx
   exact vge x (flt x ha) e
theorem wL (r:St)(vs:Option Addr)(vc:Nat)(ts:Option Addr)(tc:Nat)(ls:Option Addr)(lc:Nat)(w:World)(hr:RunAt w r vs ts ls)(hv8:r.vars.length≤100)(hf3:∀t∈r.things,t.fs.length≤100)(ht:r.things.length≤100)(hls:r.lines.length * 16≤140737488355328):
  Calls pG 45 #[ff r vs vc ts tc ls lc] w λe w'=>∃vv tv lv fv,e=Rt (Ag #[I Y r.at_,vv,tv,I Y r.taken,lv,I Y r.fin])∧OwnRows w' w.heap.size r vv tv lv fv∧Below w.heap.size w w':=by
 unfold ff
 have hb0:Below w.heap.size w ((w.alloc (Cc #[I Y r.at_,U vs r.vars.length vc,U ts r.things.length tc,I Y r.taken,U ls r.lines.length lc,I Y r.fin] 33)).alloc (Cc #[I Y 0,U nO 0 0,U nO 0 0,I Y 0,U nO 0 0,I Y 0] 33)):=by go_grown
 have Q0:=(R6.new w 33 (I Y r.at_) (U vs r.vars.length vc) (U ts r.things.length tc) (I Y r.taken) (U ls r.lines.length lc) (I Y r.fin)).call (w':=((w.alloc (Cc #[I Y r.at_,U vs r.vars.length vc,U ts r.things.length tc,I Y r.taken,U ls r.lines.length lc,I Y r.fin] 33)).alloc (Cc #[I Y 0,U nO 0 0,U nO 0 0,I Y 0,U nO 0 0,I Y 0] 33))) (by go_grown)
 have Z0:=R6.new (w.alloc (Cc #[I Y r.at_,U vs r.vars.length vc,U ts r.things.length tc,I Y r.taken,U ls r.lines.length lc,I Y r.fin] 33)) 33 (I Y 0) (U nO 0 0) (U nO 0 0) (I Y 0) (U nO 0 0) (I Y 0)
 rw[j3] at Z0
 obtain⟨fo,hfo1,hfo2,hfo3⟩:=hr.2.1.list
 have hz2:((w.alloc (Cc #[I Y r.at_,U vs r.vars.length vc,U ts r.things.length tc,I Y r.taken,U ls r.lines.length lc,I Y r.fin] 33)).alloc (Cc #[I Y 0,U nO 0 0,U nO 0 0,I Y 0,U nO 0 0,I Y 0] 33)).heap.size=w.heap.size+1+1:=by simp
 have H1:=aD (pP vs vc r.vars ((w.alloc (Cc #[I Y r.at_,U vs r.vars.length vc,U ts r.things.length tc,I Y r.taken,U ls r.lines.length lc,I Y r.fin] 33)).alloc (Cc #[I Y 0,U nO 0 0,U nO 0 0,I Y 0,U nO 0 0,I Y 0] 33)) (hr.1.below hb0 (lR _)) (by omega))
 have H2:=aD (λ(wx:World) (hx:Below w.heap.size w wx)=>AN ls lc r.lines wx (hr.2.2.below hx (lR _)) hls)
 have H3:=aD (λ(wx:World) (hx:Below w.heap.size w wx)=>A9 ts tc (r.things.map (·.site)) fo wx (by simpa using hfo1) (λe=>by simpa using hr.2.1.nil e) (λad e j u hu=>by
  obtain⟨k,h1,h2,hk⟩:=uw _ _ (by simpa using hfo1) j u hu
  rcases hfo3 with hfo3|⟨b,off,es,hbz,hi⟩
  ·rw[hfo3] at h1;simp at h1
  ·rw[es] at e
   cases e
   have hkl:k < r.things.length:=by simpa using h1
   have q:=hi k hkl h2
   rcases hk with⟨rfl,rfl⟩|⟨rfl,rfl⟩
   ·have e:(⟨b,off,nO⟩:Addr).add (k * 2)=⟨b,off+k * 2,nO⟩:=by unfold Addr.add;split<;>simp_all
    rw[e,hx.cell (by simpa using hbz)]
    simpa using q.1
   ·have e:(⟨b,off,nO⟩:Addr).add (k * 2+1)=⟨b,off+k * 2+1,nO⟩:=by unfold Addr.add;split<;>simp_all[Nat.add_assoc]
    rw[e,hx.cell (by simpa using hbz)]
    exact q.2) (λv hv=>by
  obtain⟨i,hi,rfl⟩:=J7 hv
  obtain⟨f,fc,e,-⟩:=hfo2 i (by omega) hi
  rw[e]
  rfl) (by simp;omega))
 have H4:=aD (λ(wx:World) (hx:Below w.heap.size w wx) (k:Nat) (hk:k < r.things.length) (f:Option Addr) (fc:Nat) (hf:ValsAt w f r.things[k].fs)=>pP f fc r.things[k].fs wx (hf.below hx (lR _)) (by have:=hf3 _ (gM hk);omega))
 have HF:=aD hfo2
 clear hr hfo2 hfo3 hf3
 obtain⟨⟨r0,r1,r2,r3,r4,r5⟩,rz,rf⟩:=id Q0
 have g1:=rf 1
 clear rf
 go_enter Tryz.func45,Tryz.ntmps45
 go_wp2_with (go_at_call 83;fail)
 generalize ((w.alloc (Cc #[I Y r.at_,U vs r.vars.length vc,U ts r.things.length tc,I Y r.taken,U ls r.lines.length lc,I Y r.fin] 33)).alloc (Cc #[I Y 0,U nO 0 0,U nO 0 0,I Y 0,U nO 0 0,I Y 0] 33))=w2 at *
 refine H1.out.mono ?_
 rintro e w3 ⟨vv,rfl,ov,hb3⟩
 clear H1 r0 r1 r2 r3 r4 r5 rz g1
 obtain⟨vs1,vc1,rfl,-⟩:=ValRow.at ov
 rw[hz2] at ov
 have QA:=(Q0.call hb3).put1 (U vs1 r.vars.length vc1)
 have ZA:=(Z0.call hb3).far (a:=⟨w.heap.size,1,nO⟩) (by simp) (U vs1 r.vars.length vc1)
 have BA:Below w.heap.size w (w3.setCell ⟨w.heap.size,1,nO⟩ (U vs1 r.vars.length vc1)):=(hb0.trans (hb3.mono hb0.size)).setCell (by simp) _
 have OA:ValRow (w3.setCell ⟨w.heap.size,1,nO⟩ (U vs1 r.vars.length vc1)) (w.heap.size+1+1) (U vs1 r.vars.length vc1) r.vars:=dm ov (dD ov (by simp only;omega)) _
 have q1:=(Q0.call hb3).1.2.1
 have g1:=(Q0.call hb3).2.2 1
 have q4:=(Q0.call hb3).1.2.2.2.2.1
 have zA:w.heap.size+1+1≤(w3.setCell ⟨w.heap.size,1,nO⟩ (U vs1 r.vars.length vc1)).heap.size:=by have:=hb3.size;simp[j6];omega
 clear Q0 Z0 ov hb3
 go_wp2_with (go_at_call 84;fail)
 generalize w3.setCell ⟨w.heap.size,1,nO⟩ (U vs1 r.vars.length vc1)=w4 at *
 refine(H2.out w4 BA).mono ?_
 rintro e w5 ⟨lv,rfl,ol,hb5⟩
 clear H2 q1 g1 q4
 obtain⟨ls1,lc1,rfl,-⟩:=StrRow.at ol
 have q4:=(QA.call hb5).1.2.2.2.2.1
 have g4:=(QA.call hb5).2.2 4
 have q2:=(QA.call hb5).1.2.2.1
 have QB:=(QA.call hb5).put4 (U ls1 r.lines.length lc1)
 have ZB:=(ZA.call hb5).far (a:=⟨w.heap.size,4,nO⟩) (by simp) (U ls1 r.lines.length lc1)
 have BB:Below w.heap.size w (w5.setCell ⟨w.heap.size,4,nO⟩ (U ls1 r.lines.length lc1)):=(BA.trans (hb5.mono BA.size)).setCell (by simp) _
 have OB:=dm (a:=⟨w.heap.size,4,nO⟩) (eh OA hb5) (dD OA (by simp only;omega)) (U ls1 r.lines.length lc1)
 have LB:=dm (a:=⟨w.heap.size,4,nO⟩) ol (dD ol (by simp only;omega)) (U ls1 r.lines.length lc1)
 have apB:∀x,(j7 vs1 r.vars.length vc1).ownBlock=sO x→(j7 ls1 r.lines.length lc1).ownBlock≠sO x:=λx hx=>dD ol (aS OA hx).1
 have zB:w.heap.size+1+1≤(w5.setCell ⟨w.heap.size,4,nO⟩ (U ls1 r.lines.length lc1)).heap.size:=by have:=hb5.size;simp[j6];omega
 have LB':=cM LB zA
 clear QA ZA BA OA ol hb5 LB
 go_wp2_with (go_at_call 85;fail)
 generalize w5.setCell ⟨w.heap.size,4,nO⟩ (U ls1 r.lines.length lc1)=w6 at *
 have H3':=H3.out w6 BB
 simp only[List.length_map] at H3'
 refine H3'.mono ?_
 rintro e w7 ⟨tv,rfl,ot,hb7⟩
 clear H3 H3' q4 g4 q2
 have etv:∃ts1 tc1,tv=U ts1 r.things.length tc1:=by
  rcases ot.2 with⟨hv,hn⟩|⟨g,cap,cur,hv,_⟩
  ·exact⟨nO,0,by rw[hv,hn]⟩
  ·exact⟨_,_,hv⟩
 obtain⟨ts1,tc1,rfl⟩:=etv
 have q2:=(QB.call hb7).1.2.2.1
 have g2:=(QB.call hb7).2.2 2
 have IV:CpInv w (w7.setCell ⟨w.heap.size,2,nO⟩ (U ts1 r.things.length tc1)) r fo [] (U vs1 r.vars.length vc1) (U ts1 r.things.length tc1) (U ls1 r.lines.length lc1):=by
  refine⟨(BB.trans (hb7.mono BB.size)).setCell (by simp) _,(QB.call hb7).put2 _,(ZB.call hb7).far (by simp) _,dm (eh OB hb7) (dD OB (by simp only;omega)) _,dm (eh LB' hb7) (dD LB' (by simp only;omega)) _,?_,j8 _,hfo1,λj hj=>by simp at hj,?_⟩
  ·simp only[J9,J8,List.drop_zero]
   exact dm (cM ot zB) (dD ot (by simp only;omega)) _
  ·have n1:∀x,(j7 vs1 r.vars.length vc1).ownBlock=sO x→(j7 ts1 r.things.length tc1).ownBlock≠sO x:=λx hx=>dD ot (aS OB hx).1
   have n2:∀x,(j7 ls1 r.lines.length lc1).ownBlock=sO x→(j7 ts1 r.things.length tc1).ownBlock≠sO x:=λx hx=>dD ot (aS LB' hx).1
   refine q8.2 ⟨λb hb x hx e=> ?_,q8.2 ⟨λb hb x hx e=> ?_,q8.2 ⟨λb hb=>(by cases hb),List.Pairwise.nil⟩⟩⟩
   ·rcases j4.1 hb with rfl|hb
    ·exact n1 x hx e
    ·rcases j4.1 hb with rfl|hb
     ·exact apB x hx e
     ·cases hb
   ·rcases j4.1 hb with rfl|hb
    ·exact n2 x e hx
    ·cases hb
 have HIV:=aD IV
 clear QB ZB BB OB LB' apB ot hb7 IV zA zB
 go_upto_region 4 with fail
 generalize w7.setCell ⟨w.heap.size,2,nO⟩ (U ts1 r.things.length tc1)=w8 at *
 obtain⟨⟨-,-,p2,-,-,-⟩,-,-⟩:=HIV.out.run
 clear q2 g2
 have hlen:(r.things.length:Int)≤9223372036854775807:=by omega
 go_wp2
 go_loopw [19] (λi wr=>∃fn:List Value,fn.length≤r.things.length∧i=I Y fn.length∧CpInv w wr r fo fn (U vs1 r.vars.length vc1) (U ts1 r.things.length tc1) (U ls1 r.lines.length lc1)) (λi _=>r.things.length - (intOf i).toNat)
 case atStart=>exact⟨[],j8 _,rfl,HIV.out⟩
 case round=>
  obtain⟨fn,hle,rfl,hI⟩:=hrel
  by_cases hlt:fn.length < r.things.length
  ·obtain⟨gt,cg,egt,hgB,hgz⟩:=hI.things.form (by omega)
   cases egt
   have n0:(0:Int)≤(fn.length:Int):=by omega
   have n1:(fn.length:Int) < (r.things.length:Int):=by omega
   obtain⟨f,fc,efo,hff⟩:=HF.out fn.length hlt (by omega)
   have ct:wr.cell? ⟨gt,fn.length * 2+1,nO⟩=sO (U f r.things[fn.length].fs.length fc):=by
    rw[hI.things.cellAt (fn.length * 2+1) (by omega)]
    have hfl:(fn++fo.drop fn.length).length=(r.things.map (·.site)).length:=by have:=hI.old;simp;omega
    rw[fm _ _ hfl fn.length (by rw[hfl];simpa using hlt),←efo]
    congr 1
    rw[List.getElem_append_right (lR _)]
    simp
   have fz:=hI.things.frozenAt (fn.length * 2+1)
   have cr:=hI.run.1.2.2.1
   have hrz:=hI.run.2.1
   have hne:w.heap.size≠gt:=by omega
   have KZ:∀wx,Below wr.heap.size wr wx→wx.cell? ⟨w.heap.size,2,nO⟩=sO (U (sO ⟨gt,0,nO⟩) r.things.length tc1)∧wx.cell? ⟨gt,fn.length * 2+1,nO⟩=sO (U f r.things[fn.length].fs.length fc):=λwx hx=>⟨by rw[hx.cell (by simpa using hrz)];exact cr,by rw[hx.cell (by simpa using hgz)];exact ct⟩
   have HC:=aD (H4.out wr.drew hI.low.drew fn.length hlt f fc hff)
   have HN:=aD (λ(w1:World) (v':Value) (hb:Below wr.heap.size wr w1) (hv:ValRow w1 wr.heap.size v' r.things[fn.length].fs)=>hI.step hlt hb hv)
   clear hI hff efo
   generalize hkk:fn.length=k at *
   go_wp2
   refine an (S:=(λwx=>wx.cell? ⟨w.heap.size,2,nO⟩=sO (U (sO ⟨gt,0,nO⟩) r.things.length tc1)∧wx.cell? ⟨gt,k * 2+1,nO⟩=sO (U f r.things[k].fs.length fc))) [12] (by kernel_rfl) (KZ _ (bR _ _).drew) (λhHeld=> ?_)
   refine vZ 0 ?_ ?_
   refine vZ 1 ?_ ?_
   refine vZ 2 ?_ ?_
   refine vZ 3 ?_ ?_
   refine vZ 4 ?_ ?_
   refine vZ 5 ?_ ?_
   refine vZ 6 ?_ ?_
   refine vZ 7 ?_ ?_
   refine vZ 8 ?_ ?_
   refine ai (i:=9) rfl (by kernel_rfl) (λK hK=> ?_)
   go_simp
   go_at_call 83
   refine HC.out.mono ?_
   rintro e w9 ⟨v',rfl,ov,hb9⟩
   have HB9:Below wr.heap.size wr w9:=Below.trans (bR _ _).drew hb9
   have evv:∃a b,v'=U a r.things[k].fs.length b:=by
    obtain⟨a,b,e,-⟩:=ValRow.at (w:=w9) (B:=wr.heap.size) ov
    exact⟨a,b,e⟩
   obtain⟨va,vb,rfl⟩:=evv
   go_wp2_with fail
   refine hK.out _ _ (KZ _ HB9) (λhHeld=> ?_)
   clear hK K HC
   refine sm ?_
   refine vZ 10 ?_ ?_
   refine vZ 11 ?_ ?_
   refine aJ (i:=12) rfl (by kernel_rfl) (by kernel_rfl) (λK hK=> ?_)
   have c9:w9.cell? ⟨gt,k * 2+1,nO⟩=sO (U f r.things[k].fs.length fc):=(KZ _ HB9).2
   have d9:w9.frozen? ⟨gt,k * 2+1,nO⟩=false:=by rw[HB9.frozen (by simpa using hgz)];exact fz
   go_simp
   refine hK.out _ _ ?_
   clear hK K
   refine sm ?_
   refine aj (by kernel_rfl) ?_ _
   have HI9:=aD (HN.out w9 _ HB9 ov)
   clear HN
   go_wp2
   go_roundw
   case rel=>exact⟨fn++[U va r.things[k].fs.length vb],by simp;omega,by simp[hkk],HI9.out⟩
   case measure=>simp[intOf];omega
  ·have hn:fn.length=r.things.length:=by omega
   have OR:=hI.rows hn
   have HL:=hI.low
   obtain⟨⟨r0,r1,r2,r3,r4,r5⟩,rz,rf⟩:=id hI.run
   obtain⟨⟨z0,z1,z2,z3,z4,z5⟩,zz,zf⟩:=id hI.res
   have g0:=zf 0
   have g1:=zf 1
   have g2:=zf 2
   have g3:=zf 3
   have g4:=zf 4
   have g5:=zf 5
   have HY:=aD (And.intro ((OR.set6 (b:=w.heap.size+1) (by omega) (I Y r.at_) (U vs1 r.vars.length vc1) (U ts1 r.things.length tc1) (I Y r.taken) (U ls1 r.lines.length lc1) (I Y r.fin)).down (show w.heap.size≤w.heap.size+1+1 by omega)) (eH HL (show w.heap.size≤w.heap.size+1 by omega) (I Y r.at_) (U vs1 r.vars.length vc1) (U ts1 r.things.length tc1) (I Y r.taken) (U ls1 r.lines.length lc1) (I Y r.fin)))
   clear hI OR HL rf zf HF H4 HIV
   go_wp2
   refine bodyPost_ret (v:=Ag #[I Y r.at_,U vs1 r.vars.length vc1,U ts1 r.things.length tc1,I Y r.taken,U ls1 r.lines.length lc1,I Y r.fin]) (by simp[results,Tryz.results45,go_sem,z0,z1,z2,z3,z4,z5]) rfl ?_
   exact⟨_,_,_,fn,rfl,HY.out.1,HY.out.2⟩
theorem y8 (v f:Nat)(s:Option Addr)(c:List Ins)(cap:Nat)(r:St)(vs:Option Addr)(vc:Nat)(ts:Option Addr)(tc:Nat)(ls:Option Addr)(lc:Nat)(is:Option Addr)(ic:Nat)(ins:List Int)(w:World)(hc:CodeAt w s c)(hl:fA r)(hr:RunAt w r vs ts ls)(hI:IntsAt w is ins)(hT:Tab w)(hln:(r.lines.length+1) * 16≤140737488355328)(h0:b9 v f c r=0):
  Calls pG 14 #[Ag #[I Y (v:Int),I Y (f:Int),U s c.length cap],ff r vs vc ts tc ls lc,U is ins.length ic] w λe w'=>∃vv tv lv fv,e=Rt (Tu #[Ag #[I Y (bk f c ins r).at_,vv,tv,I Y (bk f c ins r).taken,lv,I Y (bk f c ins r).fin],I Y 0])∧OwnRows w' w.heap.size (bk f c ins r) vv tv lv fv∧Below w.heap.size w w':=by
 have hp0:ag v f c=0:=by
  unfold b9 at h0
  split at h0
  ·assumption
  ·exact h0
 have hr0:fM v f c r=0:=by
  unfold b9 at h0
  rw[if_pos hp0] at h0
  exact h0
 have hp:=bM hp0
 have hk:=vt hr0
 have hb0:Below w.heap.size w (((w.alloc (Cc #[I Y (v:Int),I Y (f:Int),U s c.length cap] 24)).alloc (Cc #[I Y r.at_,U vs r.vars.length vc,U ts r.things.length tc,I Y r.taken,U ls r.lines.length lc,I Y r.fin] 33)).alloc (Cc #[I Y 0,U nO 0 0,U nO 0 0,I Y 0,U nO 0 0,I Y 0] 33)):=by go_grown
 have P0:=(P3.new w v f s c.length cap).call (w':=(((w.alloc (Cc #[I Y (v:Int),I Y (f:Int),U s c.length cap] 24)).alloc (Cc #[I Y r.at_,U vs r.vars.length vc,U ts r.things.length tc,I Y r.taken,U ls r.lines.length lc,I Y r.fin] 33)).alloc (Cc #[I Y 0,U nO 0 0,U nO 0 0,I Y 0,U nO 0 0,I Y 0] 33))) (by go_grown)
 have Q0:=(R6.new (w.alloc (Cc #[I Y (v:Int),I Y (f:Int),U s c.length cap] 24)) 33 (I Y r.at_) (U vs r.vars.length vc) (U ts r.things.length tc) (I Y r.taken) (U ls r.lines.length lc) (I Y r.fin)).call (w':=(((w.alloc (Cc #[I Y (v:Int),I Y (f:Int),U s c.length cap] 24)).alloc (Cc #[I Y r.at_,U vs r.vars.length vc,U ts r.things.length tc,I Y r.taken,U ls r.lines.length lc,I Y r.fin] 33)).alloc (Cc #[I Y 0,U nO 0 0,U nO 0 0,I Y 0,U nO 0 0,I Y 0] 33))) (by go_grown)
 have Z0:=R6.new ((w.alloc (Cc #[I Y (v:Int),I Y (f:Int),U s c.length cap] 24)).alloc (Cc #[I Y r.at_,U vs r.vars.length vc,U ts r.things.length tc,I Y r.taken,U ls r.lines.length lc,I Y r.fin] 33)) 33 (I Y 0) (U nO 0 0) (U nO 0 0) (I Y 0) (U nO 0 0) (I Y 0)
 rw[j3] at Q0
 rw[j3,j3] at Z0
 have HC:=aD (fO v f s c cap r vs vc ts tc ls lc (((w.alloc (Cc #[I Y (v:Int),I Y (f:Int),U s c.length cap] 24)).alloc (Cc #[I Y r.at_,U vs r.vars.length vc,U ts r.things.length tc,I Y r.taken,U ls r.lines.length lc,I Y r.fin] 33)).alloc (Cc #[I Y 0,U nO 0 0,U nO 0 0,I Y 0,U nO 0 0,I Y 0] 33)) (hc.below hb0 (lR _)) hl (hr.below hb0 (lR _)))
 rw[h0] at HC
 have HCR:=aD (λ(wx:World) (hx:Below w.heap.size w wx)=>wL r vs vc ts tc ls lc wx (hr.below hx (lR _)) (by have:=hk.vars;have:=hp.v8;omega) (λt ht=>by have:=hk.fields t ht;have:=hp.f3;omega) hk.things (by omega))
 unfold ff at HC HCR ⊢
 have HCD:=aD (λ(wx:World) (hx:Below w.heap.size w wx)=>And.intro (hc.below hx (lR _)) (And.intro (hI.below hx (lR _)) (hT.below hx)))
 have HP:=aD (And.intro hp hk)
 clear hc hl hr h0 hp0 hr0 hI hT hp hk
 have hz3:(((w.alloc (Cc #[I Y (v:Int),I Y (f:Int),U s c.length cap] 24)).alloc (Cc #[I Y r.at_,U vs r.vars.length vc,U ts r.things.length tc,I Y r.taken,U ls r.lines.length lc,I Y r.fin] 33)).alloc (Cc #[I Y 0,U nO 0 0,U nO 0 0,I Y 0,U nO 0 0,I Y 0] 33)).heap.size=w.heap.size+1+1+1:=by simp
 go_enter Tryz.func14,Tryz.ntmps14
 go_wp2_with (go_at_call 42;fail)
 generalize (((w.alloc (Cc #[I Y (v:Int),I Y (f:Int),U s c.length cap] 24)).alloc (Cc #[I Y r.at_,U vs r.vars.length vc,U ts r.things.length tc,I Y r.taken,U ls r.lines.length lc,I Y r.fin] 33)).alloc (Cc #[I Y 0,U nO 0 0,U nO 0 0,I Y 0,U nO 0 0,I Y 0] 33))=w3 at *
 refine HC.out.mono ?_
 rintro e w4 ⟨rfl,hb4⟩
 clear HC
 have H4:=hb0.trans (hb4.mono hb0.size)
 have P4:=P0.call hb4
 have Q4:=Q0.call hb4
 have Z4:=Z0.call hb4
 have hz4:w.heap.size+1+1+1≤w4.heap.size:=by have:=hb4.size;omega
 have KS:∀wx,Below w4.heap.size w4 wx→wx.cell? ⟨w.heap.size,0,nO⟩=sO (I Y v)∧wx.cell? ⟨w.heap.size,1,nO⟩=sO (I Y f)∧wx.cell? ⟨w.heap.size,2,nO⟩=sO (U s c.length cap)∧wx.cell? ⟨w.heap.size+1,0,nO⟩=sO (I Y r.at_)∧wx.cell? ⟨w.heap.size+1,1,nO⟩=sO (U vs r.vars.length vc)∧wx.cell? ⟨w.heap.size+1,2,nO⟩=sO (U ts r.things.length tc)∧wx.cell? ⟨w.heap.size+1,3,nO⟩=sO (I Y r.taken)∧wx.cell? ⟨w.heap.size+1,4,nO⟩=sO (U ls r.lines.length lc)∧wx.cell? ⟨w.heap.size+1,5,nO⟩=sO (I Y r.fin):=λwx hx=>by
  obtain⟨⟨p0,p1,p2⟩,-⟩:=P4.call hx
  obtain⟨⟨r0,r1,r2,r3,r4,r5⟩,-,-⟩:=Q4.call hx
  exact⟨p0,p1,p2,r0,r1,r2,r3,r4,r5⟩
 clear P0 Q0 Z0 hb4 P4 Q4
 go_upto_region 4 with fail
 go_cut [9] (λp9 wy=>∃m vv tv lv fv,p9=Pp (sO ⟨m,0,nO⟩)∧OwnRun wy w4.heap.size m r vv tv lv fv∧wy.cell? ⟨m,7,nO⟩=sO (I Y f)∧wy.cell? ⟨m,8,nO⟩=sO (U s c.length cap)∧wy.cell? ⟨m,9,nO⟩=sO (U is ins.length ic)∧Below w4.heap.size w4 wy)
 case first=>
  rename_i J1 K1' hJ1 hK1
  refine an (S:=λwx=>wx.cell? ⟨w.heap.size,0,nO⟩=sO (I Y v)∧wx.cell? ⟨w.heap.size,1,nO⟩=sO (I Y f)∧wx.cell? ⟨w.heap.size,2,nO⟩=sO (U s c.length cap)∧wx.cell? ⟨w.heap.size+1,0,nO⟩=sO (I Y r.at_)∧wx.cell? ⟨w.heap.size+1,1,nO⟩=sO (U vs r.vars.length vc)∧wx.cell? ⟨w.heap.size+1,2,nO⟩=sO (U ts r.things.length tc)∧wx.cell? ⟨w.heap.size+1,3,nO⟩=sO (I Y r.taken)∧wx.cell? ⟨w.heap.size+1,4,nO⟩=sO (U ls r.lines.length lc)∧wx.cell? ⟨w.heap.size+1,5,nO⟩=sO (I Y r.fin)) [6] (by kernel_rfl) (KS _ (bR _ _).drew) (λhHeld=> ?_)
  have HB0:Below w4.heap.size w4 w4.drew:=(bR _ _).drew
  have hzd:w4.drew.heap.size=w4.heap.size:=rfl
  generalize w4.drew=wq at *
  refine vZ 0 ?_ ?_
  refine vZ 2 ?_ ?_
  refine vZ 3 ?_ ?_
  refine mb (i:=1) (j:=5) rfl rfl (by kernel_rfl) (λK hK=> ?_) (λK hK=> ?_)
  ·go_simp
   go_at_call 45
   refine(HCR.out wq (H4.trans (HB0.mono H4.size))).mono ?_
   rintro e w5 ⟨vv,tv,lv,fv,rfl,OR,hb5⟩
   obtain⟨vs1,vc1,ts1,tc1,ls1,lc1,rfl,rfl,rfl,-⟩:=OR.at
   have HB5:Below w4.heap.size w4 w5:=HB0.trans (hb5.mono HB0.size)
   go_wp2_with fail
   refine hK.out _ _ (KS _ HB5) (λhHeld=> ?_)
   clear hK K
   refine sm ?_
   refine vZ 4 ?_ ?_
   refine ai (i:=5) rfl (by kernel_rfl) (λK hK=> ?_)
   go_simp
   have HB6:Below w4.heap.size w4 (w5.alloc (Cc #[I Y 0,U nO 0 0,U nO 0 0,I Y 0,U nO 0 0,I Y 0,I Y 0,I Y 0,U nO 0 0,U nO 0 0] 98)):=HB5.alloc HB5.size _
   refine hK.out _ _ (KS _ HB6) (λhHeld=> ?_)
   clear hK K
   refine sm ?_
   refine aJ (i:=6) rfl (by kernel_rfl) (by kernel_rfl) (λK hK=> ?_)
   go_simp
   refine hK.out _ _ ?_
   clear hK K
   refine sm ?_
   refine aj (by kernel_rfl) ?_ _
   refine hK1 _ _ (Met.intro (hJ1 _ _ ?_))
   (repeat apply Exists.intro)
   refine⟨?_,rfl⟩
   have HB7:Below w4.heap.size w4 (w5.alloc (Cc #[I Y r.at_,U vs1 r.vars.length vc1,U ts1 r.things.length tc1,I Y r.taken,U ls1 r.lines.length lc1,I Y r.fin,I Y v,I Y f,U s c.length cap,U is ins.length ic] 98)):=HB5.alloc HB5.size _
   have OR7:=(OR.below (w':=w5.alloc (Cc #[I Y r.at_,U vs1 r.vars.length vc1,U ts1 r.things.length tc1,I Y r.taken,U ls1 r.lines.length lc1,I Y r.fin,I Y v,I Y f,U s c.length cap,U is ins.length ic] 98)) (by go_grown)).down (show w4.heap.size≤wq.heap.size by omega)
   refine⟨w5.heap.size,_,_,_,fv,rfl,OR7.run' ?_ HB5.size (λhm=> ?_),by simp[go_sem],by simp[go_sem],by simp[go_sem],HB7⟩
   ·refine⟨⟨?_,?_,?_,?_,?_,?_⟩,λj=> ?_⟩<;>simp[go_sem]
   ·exact J5 _ (OR.lt hm).1
  ·go_simp
   have HB1:Below w4.heap.size w4 (wq.alloc (Cc #[I Y 0,U nO 0 0,U nO 0 0,I Y 0,U nO 0 0,I Y 0,I Y 0,I Y 0,U nO 0 0,U nO 0 0] 98)):=HB0.alloc HB0.size _
   have hmz:∀j,j < 0+10→((wq.alloc (Cc #[I Y 0,U nO 0 0,U nO 0 0,I Y 0,U nO 0 0,I Y 0,I Y 0,I Y 0,U nO 0 0,U nO 0 0] 98)).cell? ⟨w4.heap.size,j,nO⟩).isSome=true:=by
    intro j hj
    rw[←hzd]
    match j,hj with
    |0,_=>simp[go_sem]
    |1,_=>simp[go_sem]
    |2,_=>simp[go_sem]
    |3,_=>simp[go_sem]
    |4,_=>simp[go_sem]
    |5,_=>simp[go_sem]
    |6,_=>simp[go_sem]
    |7,_=>simp[go_sem]
    |8,_=>simp[go_sem]
    |9,_=>simp[go_sem]
    |n+10,h=>exact absurd h (by omega)
   have hmf:∀j,(wq.alloc (Cc #[I Y 0,U nO 0 0,U nO 0 0,I Y 0,U nO 0 0,I Y 0,I Y 0,I Y 0,U nO 0 0,U nO 0 0] 98)).frozen? ⟨w4.heap.size,j,nO⟩=false:=by
    intro j
    rw[←hzd]
    simp[go_sem]
   have hma:w4.heap.size < (wq.alloc (Cc #[I Y 0,U nO 0 0,U nO 0 0,I Y 0,U nO 0 0,I Y 0,I Y 0,I Y 0,U nO 0 0,U nO 0 0] 98)).heap.size:=by simp[hzd]
   have hma1:(wq.alloc (Cc #[I Y 0,U nO 0 0,U nO 0 0,I Y 0,U nO 0 0,I Y 0,I Y 0,I Y 0,U nO 0 0,U nO 0 0] 98)).heap.size=w4.heap.size+1:=by simp[hzd]
   refine hK.out _ _ (KS _ HB1) (λhHeld=> ?_)
   clear hK K
   refine sm ?_
   (try rw[hzd])
   generalize wq.alloc (Cc #[I Y 0,U nO 0 0,U nO 0 0,I Y 0,U nO 0 0,I Y 0,I Y 0,I Y 0,U nO 0 0,U nO 0 0] 98)=wa at *
   refine ai (i:=1) rfl (by kernel_rfl) (λK hK=> ?_)
   go_simp
   go_at_call 45
   refine(HCR.out wa (H4.trans (HB1.mono H4.size))).mono ?_
   rintro e w5 ⟨vv,tv,lv,fv,rfl,OR,hb5⟩
   obtain⟨vs1,vc1,ts1,tc1,ls1,lc1,rfl,rfl,rfl,-⟩:=OR.at
   have HB5:Below w4.heap.size w4 w5:=HB1.trans (hb5.mono HB1.size)
   go_wp2_with fail
   refine hK.out _ _ (KS _ HB5) (λhHeld=> ?_)
   clear hK K
   refine sm ?_
   have hmz5:∀j,j < 0+10→(w5.cell? ⟨w4.heap.size,j,nO⟩).isSome=true:=λj hj=>by rw[hb5.cell (by simpa using hma)];exact hmz j hj
   have hmf5:∀j,w5.frozen? ⟨w4.heap.size,j,nO⟩=false:=λj=>by rw[hb5.frozen (by simpa using hma)];exact hmf j
   obtain⟨u0,e0⟩:=j2.1 (hmz5 0 (by omega))
   have d0:=hmf5 0
   obtain⟨u1,e1⟩:=j2.1 (hmz5 1 (by omega))
   have d1:=hmf5 1
   obtain⟨u2,e2⟩:=j2.1 (hmz5 2 (by omega))
   have d2:=hmf5 2
   obtain⟨u3,e3⟩:=j2.1 (hmz5 3 (by omega))
   have d3:=hmf5 3
   obtain⟨u4,e4⟩:=j2.1 (hmz5 4 (by omega))
   have d4:=hmf5 4
   obtain⟨u5,e5⟩:=j2.1 (hmz5 5 (by omega))
   have d5:=hmf5 5
   obtain⟨u6,e6⟩:=j2.1 (hmz5 6 (by omega))
   have d6:=hmf5 6
   obtain⟨u7,e7⟩:=j2.1 (hmz5 7 (by omega))
   have d7:=hmf5 7
   obtain⟨u8,e8⟩:=j2.1 (hmz5 8 (by omega))
   have d8:=hmf5 8
   obtain⟨u9,e9⟩:=j2.1 (hmz5 9 (by omega))
   have d9:=hmf5 9
   refine vZ 4 ?_ ?_
   have HM5:=aD (And.intro hmz5 hmf5)
   clear hmz hmf hmz5 hmf5
   refine aJ (i:=6) rfl (by kernel_rfl) (by kernel_rfl) (λK hK=> ?_)
   go_simp
   refine hK.out _ _ ?_
   clear hK K
   refine sm ?_
   refine aj (by kernel_rfl) ?_ _
   refine hK1 _ _ (Met.intro (hJ1 _ _ ?_))
   (repeat apply Exists.intro)
   refine⟨?_,rfl⟩
   show∃m vv tv lv fv,_=_∧OwnRun (bI w5 w4.heap.size 0 [I Y r.at_,U vs1 r.vars.length vc1,U ts1 r.things.length tc1,I Y r.taken,U ls1 r.lines.length lc1,I Y r.fin,I Y v,I Y f,U s c.length cap,U is ins.length ic]) w4.heap.size m r vv tv lv fv∧(bI w5 w4.heap.size 0 [I Y r.at_,U vs1 r.vars.length vc1,U ts1 r.things.length tc1,I Y r.taken,U ls1 r.lines.length lc1,I Y r.fin,I Y v,I Y f,U s c.length cap,U is ins.length ic]).cell? ⟨m,7,nO⟩=sO (I Y f)∧(bI w5 w4.heap.size 0 [I Y r.at_,U vs1 r.vars.length vc1,U ts1 r.things.length tc1,I Y r.taken,U ls1 r.lines.length lc1,I Y r.fin,I Y v,I Y f,U s c.length cap,U is ins.length ic]).cell? ⟨m,8,nO⟩=sO (U s c.length cap)∧(bI w5 w4.heap.size 0 [I Y r.at_,U vs1 r.vars.length vc1,U ts1 r.things.length tc1,I Y r.taken,U ls1 r.lines.length lc1,I Y r.fin,I Y v,I Y f,U s c.length cap,U is ins.length ic]).cell? ⟨m,9,nO⟩=sO (U is ins.length ic)∧Below w4.heap.size w4 (bI w5 w4.heap.size 0 [I Y r.at_,U vs1 r.vars.length vc1,U ts1 r.things.length tc1,I Y r.taken,U ls1 r.lines.length lc1,I Y r.fin,I Y v,I Y f,U s c.length cap,U is ins.length ic])
   have HS:=s9 w4.heap.size [I Y r.at_,U vs1 r.vars.length vc1,U ts1 r.things.length tc1,I Y r.taken,U ls1 r.lines.length lc1,I Y r.fin,I Y v,I Y f,U s c.length cap,U is ins.length ic] 0 w5 HM5.out.1
   have OR7:OwnRows (bI w5 w4.heap.size 0 [I Y r.at_,U vs1 r.vars.length vc1,U ts1 r.things.length tc1,I Y r.taken,U ls1 r.lines.length lc1,I Y r.fin,I Y v,I Y f,U s c.length cap,U is ins.length ic]) (w4.heap.size+1) r _ _ _ fv:=(by rw[←hma1];exact OR.same λk hk=>o5 _ _ (λe=>by have:=(OR.lt hk).2;omega) _ _ _)
   refine⟨w4.heap.size,_,_,_,fv,rfl,OR7.run ?_ (Nat.le_succ _) (lR _) (Nat.lt_succ_self _),?_,?_,?_,lD _ (lR _) _ _ _ HB5⟩
   ·refine⟨⟨?_,?_,?_,?_,?_,?_⟩,λj=>by rw[oy];exact HM5.out.2 j⟩
    ·simpa using HS 0 (by simp)
    ·simpa using HS 1 (by simp)
    ·simpa using HS 2 (by simp)
    ·simpa using HS 3 (by simp)
    ·simpa using HS 4 (by simp)
    ·simpa using HS 5 (by simp)
   ·simpa using HS 7 (by simp)
   ·simpa using HS 8 (by simp)
   ·simpa using HS 9 (by simp)
 obtain⟨m,vv,tv,lv,fv,rfl,O,c7,c8,c9,HBc⟩:=hcut
 have Hc:Below w.heap.size w wc:=H4.trans (HBc.mono H4.size)
 obtain⟨CD,ID,TD⟩:=HCD.out wc Hc
 have HS:=aD (s8 v f c r HP.out.1 HP.out.2 ins m w4.heap.size vv tv lv fv s cap is ic wc O HBc.size c7 c8 c9 CD ID TD hln)
 clear HCR HCD HP KS CD ID TD
 go_wp2_with (go_at_call 46;fail)
 refine HS.out.mono ?_
 rintro e w6 ⟨rfl,⟨vv6,tv6,lv6,fv6,O6⟩,M2,M3,M4⟩
 clear HS M3 M4 O
 have hm4:w4.heap.size≤m:=O6.low
 obtain⟨vs6,vc6,ts6,tc6,ls6,lc6,rfl,rfl,rfl,-⟩:=O6.rows.at
 have H46:Below w4.heap.size w4 w6:=HBc.trans M2
 have H6:Below w.heap.size w w6:=H4.trans (H46.mono H4.size)
 have Z6:=Z4.call H46
 obtain⟨⟨r0,r1,r2,r3,r4,r5⟩,rz,rf⟩:=id Z6
 have g0:=rf 0
 have g1:=rf 1
 have g2:=rf 2
 have g3:=rf 3
 have g4:=rf 4
 have g5:=rf 5
 obtain⟨⟨m0,m1,m2,m3,m4,m5⟩,mz,mf⟩:=id O6.r6
 have hne:m≠w.heap.size+1+1:=by omega
 have HY:=aD (And.intro ((O6.rows.set6 (b:=w.heap.size+1+1) (by omega) (I Y (bk f c ins r).at_) (U vs6 (bk f c ins r).vars.length vc6) (U ts6 (bk f c ins r).things.length tc6) (I Y (bk f c ins r).taken) (U ls6 (bk f c ins r).lines.length lc6) (I Y (bk f c ins r).fin)).down (show w.heap.size≤w4.heap.size by omega)) (eH H6 (show w.heap.size≤w.heap.size+1+1 by omega) (I Y (bk f c ins r).at_) (U vs6 (bk f c ins r).vars.length vc6) (U ts6 (bk f c ins r).things.length tc6) (I Y (bk f c ins r).taken) (U ls6 (bk f c ins r).lines.length lc6) (I Y (bk f c ins r).fin)))
 clear O6 Z6 Z4 rf mf H46 M2 HBc Hc
 generalize hst:bk f c ins r=st at *
 have HST:=aD hst
 clear hst
 go_wp2
 refine bodyPost_ret (v:=Tu #[Ag #[I Y st.at_,U vs6 st.vars.length vc6,U ts6 st.things.length tc6,I Y st.taken,U ls6 st.lines.length lc6,I Y st.fin],I Y 0]) (by simp[results,Tryz.results14,go_sem,r0,r1,r2,r3,r4,r5]) rfl ?_
 rw[HST.out]
 exact⟨_,_,_,fv6,rfl,HY.out.1,HY.out.2⟩
end
section
open Go.RowKit
def IC (w':World)(e:Ending)(st:St)(er:Int):Prop:=∃vs vc ts tc ls lc,e=Rt (Tu #[Ag #[I Y st.at_,U vs st.vars.length vc,U ts st.things.length tc,I Y st.taken,U ls st.lines.length lc,I Y st.fin],I Y er])∧RunAt w' st vs ts ls
def nJ (V F:Int)(c:List Ins):St:=if ag V F c=0 then aR V else CZ
theorem OwnRows.runAt {w:World}{B:Nat}{st:St}{cv ct cl:Option Addr}{n1 n2 n3 cvc ctc clc:Nat}{fv:List Value}(h:OwnRows w B st (U cv n1 cvc) (U ct n2 ctc) (U cl n3 clc) fv):RunAt w st cv ct cl:=by
 obtain⟨_,_,_,_,_,_,e1,e2,e3,h1⟩:=h.at
 cases e1
 cases e2
 cases e3
 exact h1
theorem BY (V F:Int)(s:Option Addr)(c:List Ins)(cap:Nat)(w:World)(hc:CodeAt w s c):
  Calls pG 40 #[Ag #[I Y V,I Y F,U s c.length cap]] w λe w'=>IC w' e (nJ V F c) (ag V F c)∧Below w.heap.size w w':=by
 unfold nJ
 by_cases h0:ag V F c=0
 ·have hp:=bM h0
  have hv8:=hp.v8
  obtain⟨v,rfl⟩:=j1 (show 0≤V by have:=hp.v1;omega)
  refine(o3 v F s c cap w hc h0).mono ?_
  rintro e w' ⟨g,rfl,hown,hb⟩
  rw[nv v (by omega)] at hown
  obtain⟨vs,vc,ts,tc,ls,lc,e1,e2,e3,hat⟩:=(pm (by omega) hown).at
  rw[h0,if_pos rfl]
  refine⟨⟨vs,vc,ts,tc,ls,lc,?_,hat⟩,hb⟩
  rw[←e1,←e2,←e3]
  rfl
 ·refine(BT V F s c cap w hc h0).mono ?_
  rintro e w' ⟨rfl,hb⟩
  rw[if_neg h0]
  exact⟨⟨nO,0,nO,0,nO,0,rfl,Bo _⟩,hb⟩
theorem Dk:(bH 1 0 aH [] 10).1.fin=1:=by decide+kernel
theorem Fb:(bH 1 0 aH [] 10).2=3:=by decide+kernel
theorem wo:(bH 1 0 aH [] 10).1.lines.map (·.data)=[#[53]]:=by decide+kernel
theorem ux:(bk 0 aH [] (aR 1)).at_=1:=by decide+kernel
theorem AY:b9 1 0 aH (aR 1)=0:=by decide+kernel
theorem wC:b9 1 0 aH (bk 0 aH [] (aR 1))=0:=by decide+kernel
theorem Cf:fA (aR 1):=⟨by decide+kernel,by decide+kernel,by decide+kernel,λt ht=>by simp[aR] at ht⟩
theorem AI:fA (bk 0 aH [] (aR 1)):=by
 refine⟨by decide+kernel,by decide+kernel,by decide+kernel,λt ht=> ?_⟩
 have h:(bk 0 aH [] (aR 1)).things.length=0:=by decide+kernel
 rw[z6 h] at ht
 simp at ht
theorem o9:(bH 1 0 aH [] 10).1.lines=[⟨#[53]⟩]:=by
 have h:=wo
 generalize (bH 1 0 aH [] 10).1.lines=l at h ⊢
 match l,h with
 |[⟨d⟩],h=>simp at h;rw[h]
end
section
open Go.RowKit
attribute [local go_sem ↓] Go.wp_at_zero Go.wp_at_succ
theorem D7 (b:Nat)(w:World)(hc:CodeAt w (sO ⟨b,0,nO⟩) aH)(hT:Tab w):
  Calls pG 19 #[Ag #[I Y 1,I Y 0,U (sO ⟨b,0,nO⟩) 2 2],U nO 0 0,I Y 10] w λe w'=>∃a rv rvn rvc rt rtn rtc k rl rlc,e=Rt (Tu #[Ag #[I Y a,U rv rvn rvc,U rt rtn rtc,I Y k,U rl 1 rlc,I Y 1],I Y 3,I Y 0])∧StrsAt w' rl [⟨#[53]⟩]∧Below w.heap.size w w':=by
 refine(yI 1 0 (sO ⟨b,0,nO⟩) aH 2 nO 0 [] 10 w hc (.inl rfl) hT (by decide+kernel) (by omega)).mono ?_
 rintro e w' ⟨vv,tv,lv,fv,rfl,OR,-,-,hb⟩
 obtain⟨vs,vc,ts,tc,ls,lc,rfl,rfl,rfl,h⟩:=OR.at
 have e0:bH ((1:Nat):Int) ((0:Nat):Int) aH [] 10=bH 1 0 aH [] 10:=rfl
 rw[e0] at h ⊢
 have hl:=h.2.2
 rw[o9] at hl
 refine⟨(bH 1 0 aH [] 10).1.at_,vs,(bH 1 0 aH [] 10).1.vars.length,vc,ts,(bH 1 0 aH [] 10).1.things.length,tc,(bH 1 0 aH [] 10).1.taken,ls,lc,?_,hl,hb⟩
 rw[Dk,Fb,o9]
 rfl

theorem yU (b:Nat)(w:World)(hc:CodeAt w (sO ⟨b,0,nO⟩) aH):
  Calls pG 40 #[Ag #[I Y 1,I Y 0,U (sO ⟨b,0,nO⟩) 2 2]] w λe w'=>∃bv bvc bt btc bl blc,e=Rt (Tu #[Ag #[I Y 0,U bv 1 bvc,U bt 0 btc,I Y 0,U bl 0 blc,I Y 0],I Y 0])∧RunAt w' (aR 1) bv bt bl∧Below w.heap.size w w':=by
 refine(BY 1 0 (sO ⟨b,0,nO⟩) aH 2 w hc).mono ?_
 rintro e w' ⟨⟨vs,vc,ts,tc,ls,lc,rfl,h⟩,hb⟩
 have h0:ag 1 0 aH=0:=by decide+kernel
 have e1:nJ 1 0 aH=aR 1:=by unfold nJ;rw[if_pos h0]
 rw[e1] at h
 refine⟨vs,vc,ts,tc,ls,lc,?_,h,hb⟩
 rw[e1,h0]
 rfl

theorem Cy (b:Nat)(bv:Option Addr)(bvc:Nat)(bt:Option Addr)(btc:Nat)(bl:Option Addr)(blc:Nat)(w:World)(hc:CodeAt w (sO ⟨b,0,nO⟩) aH)(hr:RunAt w (aR 1) bv bt bl)(hT:Tab w):
  Calls pG 14 #[Ag #[I Y 1,I Y 0,U (sO ⟨b,0,nO⟩) 2 2],Ag #[I Y 0,U bv 1 bvc,U bt 0 btc,I Y 0,U bl 0 blc,I Y 0],U nO 0 0] w λe w'=>∃st cv cvc ct ctc cl clc fv,e=Rt (Tu #[Ag #[I Y 1,U cv st.vars.length cvc,U ct st.things.length ctc,I Y st.taken,U cl st.lines.length clc,I Y st.fin],I Y 0])∧OwnRows w' w.heap.size st (U cv st.vars.length cvc) (U ct st.things.length ctc) (U cl st.lines.length clc) fv∧Hid (fA st)∧Hid (b9 1 0 aH st=0)∧Hid (st.at_=1)∧Below w.heap.size w w':=by
 refine(y8 1 0 (sO ⟨b,0,nO⟩) aH 2 (aR 1) bv bvc bt btc bl blc nO 0 [] w hc Cf hr (.inl rfl) hT (by decide+kernel) AY).mono ?_
 rintro e w' ⟨vv,tv,lv,fv,rfl,OR,hb⟩
 obtain⟨vs,vc,ts,tc,ls,lc,rfl,rfl,rfl,-⟩:=OR.at
 refine⟨bk 0 aH [] (aR 1),vs,vc,ts,tc,ls,lc,fv,?_,OR,AI,wC,ux,hb⟩
 rw[show ((0:Nat):Int)=0 from rfl,ux]

theorem AU (b:Nat)(st:St)(cv:Option Addr)(cvc:Nat)(ct:Option Addr)(ctc:Nat)(cl:Option Addr)(clc:Nat)(w:World)(hc:CodeAt w (sO ⟨b,0,nO⟩) aH)(hr:RunAt w st cv ct cl)(hl:fA st)(h0:b9 1 0 aH st=0)(h1:st.at_=1):
  Calls pG 42 #[Ag #[I Y 1,I Y 0,U (sO ⟨b,0,nO⟩) 2 2],Ag #[I Y 1,U cv st.vars.length cvc,U ct st.things.length ctc,I Y st.taken,U cl st.lines.length clc,I Y st.fin]] w λe w'=>e=Rt (I Y 0)∧Below w.heap.size w w':=by
 have h:=fO 1 0 (sO ⟨b,0,nO⟩) aH 2 st cv cvc ct ctc cl clc w hc hl hr
 unfold ff at h
 rw[h1,h0] at h
 exact h

theorem re {p:Prop}(h:p:=by
 have U9:=U5.put (.int .i64 1) (.slice cv st.vars.length cvc) (.slice ct st.things.length ctc) (.int .i64 st.taken) (.slice cl st.lines.length clc) (.int .i64 st.fin)
 have E9:Below we.heap.size we (fF w5 cb (.int .i64 1) (.slice cv st.vars.length cvc) (.slice ct st.things.length ctc) (.int .i64 st.taken) (.slice cl st.lines.length clc) (.int .i64 st.fin)):=eH E5 zc _ _ _ _ _ _
 have D9:RunAt (fF w5 cb (.int .i64 1) (.slice cv st.vars.length cvc) (.slice ct st.things.length ctc) (.int .i64 st.taken) (.slice cl st.lines.length clc) (.int .i64 st.fin)) st cv ct cl:=HF.out _ _ _ _ _ _
 obtain⟨⟨r0,r1,r2,r3,r4,r5⟩,rz,fz⟩:=id U5
 refine wpAnyH_ready (rs:=[7]) (by kernel_rfl) (by simp) ?_
 refine AllReadyH.cons rfl (λK hK=> ?_) AllReadyH.nil
 go_simp
 refine hK.out _ _ (KS3.out _ (A0.call E9)) (λhHeldz=> ?_)
 clear hK K
 refine sm ?_
 refine vH 8 ?_ ?_
 refine wpAnyH_done (by kernel_rfl) ?_ _
 first|refine hK1 _ _ (Met.intro (hJ _ _ ?_))|refine Met.intro (hJ _ _ ?_)|refine hJ _ _ ?_
 (repeat apply Exists.intro)
 refine⟨?_,rfl⟩
 exact⟨cb,st,cv,cvc,ct,ctc,cl,clc,rfl,rfl,hl,h0,h1,U9,D9,R0.call E9,L0.below E9 (Nat.le_refl _),B0.trans (E9.mono B0.size)⟩):p:=h
theorem rG {p:Prop}(h:p:=by
 refine wpAnyH_ready (rs:=[2]) (by kernel_rfl) (by simp) ?_
 refine AllReadyH.cons rfl (λK hK=> ?_) AllReadyH.nil
 go_simp
 refine(HS.out _ bv bvc bt btc bl blc w4 C4 (G0.below E4 (Nat.le_refl _)) (hT0.below E4)).mono ?_
 rintro e w5 ⟨st,cv,cvc,ct,ctc,cl,clc,fv,rfl,O5,hl,h0,h1,hb5⟩
 have U5:=U4.call hb5
 have HF:=aD (λy0 y1 y2 y3 y4 y5=>(O5.set6 U4.2.1 y0 y1 y2 y3 y4 y5).runAt)
 have E5:=E4.trans (hb5.mono E4.size)
 refine hK.out _ _ (KS3.out _ (A0.call E5)) (λhHeld5=> ?_)
 clear hK K
 refine sm ?_
 refine vH 3 ?_ ?_
 refine vH 4 ?_ ?_
 refine vH 5 ?_ ?_
 clear hb5
 exact re):p:=h
theorem vq (w:World)(hT:Tab w):
  Calls pG 12 #[] w λe w'=>e=Rt (Bb true)∧Below w.heap.size w w':=by
 have HR:=aD D7
 have HB:=aD yU
 have HS:=aD Cy
 have HC:=aD AU
 go_enter Tryz.func12,Tryz.ntmps12
 go_wp2_with (go_at_call 39;fail)
 refine(dj w).mono ?_
 rintro e w1 ⟨b1,rfl,c1,hb1⟩
 go_wp2_with (go_at_call 19;fail)
 refine(HR.out _ w1 c1 (hT.below hb1)).mono ?_
 rintro e w2 ⟨a,rv,rvn,rvc,rt,rtn,rtc,k,rl,rlc,rfl,L2,hb2⟩
 have B2:=hb1.trans (hb2.mono hb1.size)
 have L3:=L2.below (w':=w2.alloc (Cc #[I Y a,U rv rvn rvc,U rt rtn rtc,I Y k,U rl 1 rlc,I Y 1] 33)) (by go_grown) (lR _)
 have R3:=R6.new w2 33 (I Y a) (U rv rvn rvc) (U rt rtn rtc) (I Y k) (U rl 1 rlc) (I Y 1)
 have B3:Below w.heap.size w (w2.alloc (Cc #[I Y a,U rv rvn rvc,U rt rtn rtc,I Y k,U rl 1 rlc,I Y 1] 33)):=B2.alloc B2.size _
 clear L2 B2 hb1 hb2 c1 HR
 go_upto_region 2 with fail
 generalize w2.alloc (Cc #[I Y a,U rv rvn rvc,U rt rtn rtc,I Y k,U rl 1 rlc,I Y 1] 33)=w3 at *
 generalize w2.heap.size=rb at *
 go_wp2_with (go_at_call 39;fail)
 refine(dj _).mono ?_
 rintro e w4 ⟨b4,rfl,c4,hb4⟩
 go_wp2_with (go_at_call 40;fail)
 refine(HB.out _ w4 c4).mono ?_
 rintro e w5 ⟨bv,bvc,bt,btc,bl,blc,rfl,G5,hb5⟩
 have H5:=hb4.trans (hb5.mono hb4.size)
 have H6:Below w3.heap.size w3 (w5.alloc (Cc #[I Y 0,U bv 1 bvc,U bt 0 btc,I Y 0,U bl 0 blc,I Y 0] 33)):=H5.alloc H5.size _
 have G0:=G5.below (w':=w5.alloc (Cc #[I Y 0,U bv 1 bvc,U bt 0 btc,I Y 0,U bl 0 blc,I Y 0] 33)) (by go_grown) (lR _)
 have A0:=R6.new w5 33 (I Y 0) (U bv 1 bvc) (U bt 0 btc) (I Y 0) (U bl 0 blc) (I Y 0)
 have R0:=R3.call H6
 have L0:=L3.below H6 (lR _)
 have B0:=B3.trans (H6.mono B3.size)
 have hT0:=hT.below B0
 clear G5 H5 H6 hb4 hb5 c4 HB R3 L3 B3 hT
 go_upto_region 3 with fail
 generalize w5.alloc (Cc #[I Y 0,U bv 1 bvc,U bt 0 btc,I Y 0,U bl 0 blc,I Y 0] 33)=we at *
 generalize w5.heap.size=bb at *
 have KS3:=aD (λwx (h:R6 wx bb (I Y 0) (U bv 1 bvc) (U bt 0 btc) (I Y 0) (U bl 0 blc) (I Y 0))=>h.1)
 go_cut [6,7] (λt6 t7 wc=>∃cb st cv cvc ct ctc cl clc,t6=Pp (sO ⟨cb,0,nO⟩)∧t7=I Y 0∧Hid (fA st)∧Hid (b9 1 0 aH st=0)∧Hid (st.at_=1)∧R6 wc cb (I Y 1) (U cv st.vars.length cvc) (U ct st.things.length ctc) (I Y st.taken) (U cl st.lines.length clc) (I Y st.fin)∧RunAt wc st cv ct cl∧R6 wc rb (I Y a) (U rv rvn rvc) (U rt rtn rtc) (I Y k) (U rl 1 rlc) (I Y 1)∧StrsAt wc rl [⟨#[53]⟩]∧Below w.heap.size w wc)
 case first=>
  rename_i J1 K1 hJ hK1
  have E2:Below we.heap.size we we.drew:=(bR _ _).drew
  refine wp_region_held_drew (S:=λwx=>wx.cell? ⟨bb,0,nO⟩=sO (I Y 0)∧wx.cell? ⟨bb,1,nO⟩=sO (U bv 1 bvc)∧wx.cell? ⟨bb,2,nO⟩=sO (U bt 0 btc)∧wx.cell? ⟨bb,3,nO⟩=sO (I Y 0)∧wx.cell? ⟨bb,4,nO⟩=sO (U bl 0 blc)∧wx.cell? ⟨bb,5,nO⟩=sO (I Y 0)) (by kernel_rfl) (KS3.out _ (A0.call E2)) (λhHeld=> ?_)
  generalize we.drew=w2 at *
  refine vH 1 ?_ ?_
  refine wpAnyH_ready (rs:=[0,6]) (by kernel_rfl) (by simp) ?_
  refine AllReadyH.cons rfl (λK hK=> ?_) (AllReadyH.cons rfl (λK hK=> ?_) AllReadyH.nil)
  ·go_simp
   refine(dj _).mono ?_
   rintro e w3 ⟨q3,rfl,C3,hb3⟩
   have E3:=E2.trans (hb3.mono E2.size)
   refine hK.out _ _ (KS3.out _ (A0.call E3)) (λhHeld3=> ?_)
   clear hK K
   refine sm ?_
   clear hb3
   refine wpAnyH_ready (rs:=[2,6]) (by kernel_rfl) (by simp) ?_
   refine AllReadyH.cons rfl (λK hK=> ?_) (AllReadyH.cons rfl (λK hK=> ?_) AllReadyH.nil)
   ·go_simp
    refine(HS.out _ bv bvc bt btc bl blc w3 C3 (G0.below E3 (lR _)) (hT0.below E3)).mono ?_
    rintro e w4 ⟨st,cv,cvc,ct,ctc,cl,clc,fv,rfl,O4,hl,h0,h1,hb4⟩
    have E4:=E3.trans (hb4.mono E3.size)
    refine hK.out _ _ (KS3.out _ (A0.call E4)) (λhHeld4=> ?_)
    clear hK K
    refine sm ?_
    refine vH 3 ?_ ?_
    refine vH 4 ?_ ?_
    refine vH 5 ?_ ?_
    clear hb4
    refine wpAnyH_ready (rs:=[6]) (by kernel_rfl) (by simp) ?_
    refine AllReadyH.cons rfl (λK hK=> ?_) AllReadyH.nil
    go_simp
    have hb5:Below w4.heap.size w4 (w4.alloc (Cc #[I Y 0,U nO 0 0,U nO 0 0,I Y 0,U nO 0 0,I Y 0] 33)):=by go_grown
    have U5:=R6.new w4 33 (I Y 0) (U nO 0 0) (U nO 0 0) (I Y 0) (U nO 0 0) (I Y 0)
    have zc:we.heap.size≤w4.heap.size:=E4.size
    have HF:=aD (λy0 y1 y2 y3 y4 y5=>(O4.runAt).below (w':=fF (w4.alloc (Cc #[I Y 0,U nO 0 0,U nO 0 0,I Y 0,U nO 0 0,I Y 0] 33)) w4.heap.size y0 y1 y2 y3 y4 y5) (eH (by go_grown) (lR _) _ _ _ _ _ _) (lR _))
    have E5:=E4.trans (hb5.mono E4.size)
    refine hK.out _ _ (KS3.out _ (A0.call E5)) (λhHeld5=> ?_)
    clear hK K
    refine sm ?_
    clear hb5
    clear O4
    generalize w4.alloc (Cc #[I Y 0,U nO 0 0,U nO 0 0,I Y 0,U nO 0 0,I Y 0] 33)=w5 at *
    generalize w4.heap.size=cb at *
    exact re
   ·go_simp
    have hb4:Below w3.heap.size w3 (w3.alloc (Cc #[I Y 0,U nO 0 0,U nO 0 0,I Y 0,U nO 0 0,I Y 0] 33)):=by go_grown
    have U4:=R6.new w3 33 (I Y 0) (U nO 0 0) (U nO 0 0) (I Y 0) (U nO 0 0) (I Y 0)
    have zc:we.heap.size≤w3.heap.size:=E3.size
    have C4:=C3.below hb4 (lR _)
    have E4:=E3.trans (hb4.mono E3.size)
    refine hK.out _ _ (KS3.out _ (A0.call E4)) (λhHeld4=> ?_)
    clear hK K
    refine sm ?_
    clear hb4
    generalize w3.alloc (Cc #[I Y 0,U nO 0 0,U nO 0 0,I Y 0,U nO 0 0,I Y 0] 33)=w4 at *
    generalize w3.heap.size=cb at *
    exact rG
  ·go_simp
   have hb3:Below w2.heap.size w2 (w2.alloc (Cc #[I Y 0,U nO 0 0,U nO 0 0,I Y 0,U nO 0 0,I Y 0] 33)):=by go_grown
   have U3:=R6.new w2 33 (I Y 0) (U nO 0 0) (U nO 0 0) (I Y 0) (U nO 0 0) (I Y 0)
   have zc:we.heap.size≤w2.heap.size:=E2.size
   have E3:=E2.trans (hb3.mono E2.size)
   refine hK.out _ _ (KS3.out _ (A0.call E3)) (λhHeld3=> ?_)
   clear hK K
   refine sm ?_
   clear hb3
   generalize w2.alloc (Cc #[I Y 0,U nO 0 0,U nO 0 0,I Y 0,U nO 0 0,I Y 0] 33)=w3 at *
   generalize w2.heap.size=cb at *
   refine wpAnyH_ready (rs:=[0]) (by kernel_rfl) (by simp) ?_
   refine AllReadyH.cons rfl (λK hK=> ?_) AllReadyH.nil
   go_simp
   refine(dj _).mono ?_
   rintro e w4 ⟨q4,rfl,C4,hb4⟩
   have U4:=U3.call hb4
   have E4:=E3.trans (hb4.mono E3.size)
   refine hK.out _ _ (KS3.out _ (A0.call E4)) (λhHeld4=> ?_)
   clear hK K
   refine sm ?_
   clear hb4
   exact rG
 case rest=>
  obtain⟨cb,st,cv,cvc,ct,ctc,cl,clc,rfl,rfl,hl,h0,h1,U1,D1,R1,L1,B1⟩:=hcut
  clear A0 R0 L0 G0 B0 hT0 HS KS3
  rcases L1 with L1|⟨lb,lo,rfl,zl,L1⟩
  ·simp at L1
  have L2:=L1 0 (by simp)
  clear L1
  simp only[Nat.add_zero,List.getElem_cons_zero] at L2
  obtain⟨⟨s0,s1,s2,s3,s4,s5⟩,sz,-⟩:=id R1
  have KS4:Hid (∀wx,Below wc.heap.size wc wx→wx.cell? ⟨rb,5,nO⟩=sO (I Y 1)∧wx.cell? ⟨rb,4,nO⟩=sO (U (sO ⟨lb,lo,nO⟩) 1 rlc)∧wx.cell? ⟨lb,lo,nO⟩=sO (.string ⟨#[53]⟩)∧wx.cell? ⟨cb,0,nO⟩=sO (I Y 1)∧wx.cell? ⟨cb,1,nO⟩=sO (U cv st.vars.length cvc)∧wx.cell? ⟨cb,2,nO⟩=sO (U ct st.things.length ctc)∧wx.cell? ⟨cb,3,nO⟩=sO (I Y st.taken)∧wx.cell? ⟨cb,4,nO⟩=sO (U cl st.lines.length clc)∧wx.cell? ⟨cb,5,nO⟩=sO (I Y st.fin)):=λwx hx=>⟨by rw[hx.cell (by simp only;exact sz)];exact s5,by rw[hx.cell (by simp only;exact sz)];exact s4,by rw[hx.cell (by simp only;exact zl)];exact L2,(U1.call hx).1⟩
  clear s0 s1 s2 s3 s4 s5 sz zl L2 R1 U1
  have D0:=D1
  clear D1
  go_wp2
  have E2:Below wc.heap.size wc wc.drew:=(bR _ _).drew
  refine wp_region_held_drew (S:=λwx=>wx.cell? ⟨rb,5,nO⟩=sO (I Y 1)∧wx.cell? ⟨rb,4,nO⟩=sO (U (sO ⟨lb,lo,nO⟩) 1 rlc)∧wx.cell? ⟨lb,lo,nO⟩=sO (.string ⟨#[53]⟩)∧wx.cell? ⟨cb,0,nO⟩=sO (I Y 1)∧wx.cell? ⟨cb,1,nO⟩=sO (U cv st.vars.length cvc)∧wx.cell? ⟨cb,2,nO⟩=sO (U ct st.things.length ctc)∧wx.cell? ⟨cb,3,nO⟩=sO (I Y st.taken)∧wx.cell? ⟨cb,4,nO⟩=sO (U cl st.lines.length clc)∧wx.cell? ⟨cb,5,nO⟩=sO (I Y st.fin)) (by kernel_rfl) (KS4.out _ E2) (λhHeld=> ?_)
  generalize wc.drew=w2 at *
  refine vH 0 ?_ ?_
  refine vH 1 ?_ ?_
  refine vH 2 ?_ ?_
  refine vH 3 ?_ ?_
  refine vH 4 ?_ ?_
  refine vH 5 ?_ ?_
  refine vH 6 ?_ ?_
  refine vH 7 ?_ ?_
  refine vH 8 ?_ ?_
  refine vH 9 ?_ ?_
  refine vH 10 ?_ ?_
  refine vH 11 ?_ ?_
  refine vH 12 ?_ ?_
  refine vH 13 ?_ ?_
  refine vH 14 ?_ ?_
  refine vH 15 ?_ ?_
  refine vH 16 ?_ ?_
  refine vH 17 ?_ ?_
  refine vH 18 ?_ ?_
  refine vH 19 ?_ ?_
  refine vH 20 ?_ ?_
  refine vH 21 ?_ ?_
  refine vH 22 ?_ ?_
  refine vH 23 ?_ ?_
  refine vH 24 ?_ ?_
  refine vH 25 ?_ ?_
  refine vH 26 ?_ ?_
  refine vH 27 ?_ ?_
  refine vH 28 ?_ ?_
  refine vH 29 ?_ ?_
  refine vH 30 ?_ ?_
  refine vH 31 ?_ ?_
  refine vH 32 ?_ ?_
  refine vH 33 ?_ ?_
  refine vH 34 ?_ ?_
  refine vH 35 ?_ ?_
  refine vH 36 ?_ ?_
  refine vH 37 ?_ ?_
  refine vH 39 ?_ ?_
  refine wpAnyH_ready (rs:=[38]) (by kernel_rfl) (by simp) ?_
  refine AllReadyH.cons rfl (λK hK=> ?_) AllReadyH.nil
  go_simp
  refine(dj _).mono ?_
  rintro e w3 ⟨q3,rfl,C3,hb3⟩
  have E3:=E2.trans (hb3.mono E2.size)
  refine hK.out _ _ (KS4.out _ E3) (λhHeld3=> ?_)
  clear hK K
  refine sm ?_
  refine wpAnyH_ready (rs:=[40]) (by kernel_rfl) (by simp) ?_
  refine AllReadyH.cons rfl (λK hK=> ?_) AllReadyH.nil
  go_simp
  refine(HC.out _ st cv cvc ct ctc cl clc w3 C3 (D0.below E3 (lR _)) hl.out h0.out h1.out).mono ?_
  rintro e w4 ⟨rfl,hb4⟩
  have E4:=E3.trans (hb4.mono E3.size)
  refine hK.out _ _ (KS4.out _ E4) (λhHeld4=> ?_)
  clear hK K
  refine sm ?_
  refine vH 41 ?_ ?_
  refine vH 42 ?_ ?_
  refine vH 43 ?_ ?_
  refine wpAnyH_done (by kernel_rfl) ?_ _
  go_wp2
  refine bodyPost_ret (v:=Bb true) (by kernel_rfl) rfl ⟨rfl,B1.trans (E4.mono B1.size)⟩
end
end Go.Proofs.YtmapdpcfanecdabGreatDoor
