import Derived.Test.YtmapdpcfanecdabGreatDoorL26
open Go.Ending renaming returned→Rt
open Go.IntKind renaming i64→Y
open Go.Obj renaming cells→Cc
open Go.Proofs.Tryz renaming prog→pG
open Go.RowKit.Below renaming heap_setCell→hSe,refl→bR
open Go.Value renaming agg→Ag,bool→Bb,int→I,pointer→Pp,slice→U,tuple→Tu
open Go.World renaming cell?_alloc_old→j0,size_alloc→zA
open Int renaming eq_ofNat_of_zero_le→j5
open List renaming Pairwise→j4,drop_eq_getElem_cons→q1,getElem?_eq_getElem→q0,getElem_mem→gM,mem_cons→j6,mem_filter→j2,mem_map→j7,mem_range→j3,pairwise_lt_range→j9,pairwise_map→j8
open Nat renaming le_refl→lR,lt_of_lt_of_le→lL,zero_add→j1
open Option renaming none→nO,some→sO
set_option linter.unusedSimpArgs false
set_option linter.unusedVariables false
set_option maxHeartbeats 8000000
set_option maxRecDepth 100000
namespace Go.Proofs.YtmapdpcfanecdabGreatDoor
section
open Go.RowKit
theorem pY {V F:Int}{c:List Ins}{g:Gs}(hk:aF V F c [g]=0):ag V F c=0∧aw c g=0:=by
 unfold aF at hk
 by_cases h0:ag V F c=0
 ·rw[if_pos h0] at hk
  have e:bX c [g]=if aw c g=0 then 0 else aw c g:=rfl
  rw[e] at hk
  by_cases hg:aw c g=0
  ·exact⟨h0,hg⟩
  ·rw[if_neg hg] at hk;exact absurd hk hg
 ·rw[if_neg h0] at hk;exact absurd hk h0
theorem ll {c:List Ins}{g:Gs}(h:aw c g=0):dg g.sp=0:=by
 unfold aw at h
 split at h
 ·assumption
 ·rename_i hn;exact Decidable.not_not.1 hn
theorem ks (w:World)(V F:Int)(s:Option Addr)(c:List Ins)(cap:Nat)(g:Gs)(ss:Option Addr)(gc:Nat):GuAt (pgW w V F s c cap g ss gc) (w.heap.size+1) 0 g ss gc∧Below w.heap.size w (pgW w V F s c cap g ss gc):=by
 refine⟨?_,by go_grown⟩
 have:=GuAt.new (w.alloc (Cc #[I Y V,I Y F,U s c.length cap] 24)) g ss gc
 rw[zA] at this
 exact this

theorem Bl (V F:Int)(s:Option Addr)(c:List Ins)(cap:Nat)(g:Gs)(ss:Option Addr)(gc:Nat)(w:World)(hcd:CodeAt w s c)(hs:IntsAt w ss g.s)(h1:g.s.length≤gc)(h2:gc≤maxLen)(hck:aF V F c [g]=0):
  Calls pG 160 #[pv V F s c cap,gv g ss gc] w λe w'=>e=Rt (Tu #[Bb (ci g),Bb (cT g),I Y 0])∧Below w.heap.size w w':=by
 obtain⟨G0,B0⟩:=ks w V F s c cap g ss gc
 have I0:IntsAt (pgW w V F s c cap g ss gc) ss g.s:=hs.below B0 (lR _)
 have L0:=GsAt.new1 (pgW w V F s c cap g ss gc) g ss gc I0 h1 h2
 simp only[zA] at L0
 have HC:=aa (bu V F s c cap (sO ⟨w.heap.size+1+1,0,nO⟩) [g] 1 _ ((hcd.below B0 (lR _)).alloc _) L0 (by simp))
 have HT:=aa (λw=>rA g ss gc w (ll (pY hck).2))
 rw[hck] at HC
 generalize ci g=y at HT ⊢
 generalize cT g=n at HT ⊢
 clear hck hcd hs I0 L0
 go_enter Tryz.func160,Tryz.ntmps160
 go_wp2_with (go_at_call 142;fail)
 refine HC.out.mono ?_
 rintro e w1 ⟨rfl,hb1⟩
 have G1:=(G0.alloc _).call hb1
 have B1:Below w.heap.size w w1:=(B0.alloc B0.size _).trans (hb1.mono (by simp;omega))
 clear hb1 HC G0 B0
 obtain⟨⟨g0,g1,g2,g3,g4,g5,g6⟩,gz⟩:=id G1
 simp only[j1] at g0 g1 g2 g3 g4 g5 g6
 go_wp2_with (go_at_call 198;fail)
 refine(HT.out _).mono ?_
 rintro e w2 ⟨rfl,hb2⟩
 go_wp2
 go_ret3
 exact⟨rfl,B1.trans (hb2.mono B1.size)⟩

theorem ph {p:Prop}(h:p:=by
 clear hcd hs L0 G00 B00
 go_enter Tryz.func81,Tryz.ntmps81
 go_wp2_with (go_at_call 142;fail)
 refine HC.out.mono ?_
 rintro e w1 ⟨rfl,hb1⟩
 have G1:=(G0.alloc _).call hb1
 have I1:=(I0.alloc _).call hb1
 have B1:Below w.heap.size w w1:=(B0.alloc B0.size _).trans (hb1.mono (by simp;omega))
 have u0:w1.cell? ⟨w.heap.size+1+1,0,none⟩=some (.int .i64 vk):=by
  rw[hb1.cell (by simp),World.cell?_alloc_old _ _ _ (by simp)];exact v0
 have u1:w1.cell? ⟨w.heap.size+1+1,1,none⟩=some (.int .i64 vn):=by
  rw[hb1.cell (by simp),World.cell?_alloc_old _ _ _ (by simp)];exact v1
 have uz:w.heap.size+1+1 < w1.heap.size:=by have:=hb1.size;simp at this;omega
 clear hb1 HC G0 I0 B0 v0 v1
 obtain⟨⟨g0,g1,g2,g3,g4,g5,g6⟩,gz⟩:=id G1
 simp only[Nat.zero_add] at g0 g1 g2 g3 g4 g5 g6
 go_wp2
 go_ret2
 exact⟨rfl,B1⟩):p:=h
theorem AE (V F:Int)(s:Option Addr)(c:List Ins)(cap:Nat)(g:Gs)(ss:Option Addr)(gc:Nat)(vk vn site:Int)(w:World)(hcd:CodeAt w s c)(hs:IntsAt w ss g.s)(h1:g.s.length≤gc)(h2:gc≤maxLen)(hck:aF V F c [g]≠0):
  Calls pG 81 #[pv V F s c cap,gv g ss gc,Ag #[I Y vk,I Y vn],I Y site] w λe w'=>e=Rt (Tu #[Bb (false),I Y (aF V F c [g])])∧Below w.heap.size w w':=by
 obtain⟨G00,B00⟩:=ks w V F s c cap g ss gc
 have G0:=G00.alloc (Cc #[I Y vk,I Y vn] 82)
 have B0:=B00.alloc B00.size (Cc #[I Y vk,I Y vn] 82)
 have I0:=(hs.below B00 (lR _)).alloc (Cc #[I Y vk,I Y vn] 82)
 have L0:=GsAt.new1 _ g ss gc I0 h1 h2
 simp only[zA] at L0
 have v0:((pgW w V F s c cap g ss gc).alloc (Cc #[I Y vk,I Y vn] 82)).cell? ⟨w.heap.size+1+1,0,nO⟩=sO (I Y vk):=by simp[go_sem]
 have v1:((pgW w V F s c cap g ss gc).alloc (Cc #[I Y vk,I Y vn] 82)).cell? ⟨w.heap.size+1+1,1,nO⟩=sO (I Y vn):=by simp[go_sem]
 have HC:=aa (bu V F s c cap (sO ⟨w.heap.size+1+1+1,0,nO⟩) [g] 1 _ (((hcd.below B00 (lR _)).alloc _).alloc _) L0 (by simp))
 have hne:(aF V F c [g]!=0)=true:=by simpa using hck
 generalize aF V F c [g]=ce at HC hne ⊢
 clear hck
 exact ph

theorem wh (V F:Int)(s:Option Addr)(c:List Ins)(cap:Nat)(g:Gs)(ss:Option Addr)(gc:Nat)(vn site:Int)(w:World)(hcd:CodeAt w s c)(hs:IntsAt w ss g.s)(h1:g.s.length≤gc)(h2:gc≤maxLen)(hck:aF V F c [g]=0):
  Calls pG 81 #[pv V F s c cap,gv g ss gc,Ag #[I Y 0,I Y vn],I Y site] w λe w'=>e=Rt (Tu #[Bb (g.n),I Y 0])∧Below w.heap.size w w':=by
 obtain⟨G00,B00⟩:=ks w V F s c cap g ss gc
 have G0:=G00.alloc (Cc #[I Y 0,I Y vn] 82)
 have B0:=B00.alloc B00.size (Cc #[I Y 0,I Y vn] 82)
 have I0:=(hs.below B00 (lR _)).alloc (Cc #[I Y 0,I Y vn] 82)
 have L0:=GsAt.new1 _ g ss gc I0 h1 h2
 simp only[zA] at L0
 have v0:((pgW w V F s c cap g ss gc).alloc (Cc #[I Y 0,I Y vn] 82)).cell? ⟨w.heap.size+1+1,0,nO⟩=sO (I Y 0):=by simp[go_sem]
 have v1:((pgW w V F s c cap g ss gc).alloc (Cc #[I Y 0,I Y vn] 82)).cell? ⟨w.heap.size+1+1,1,nO⟩=sO (I Y vn):=by simp[go_sem]
 have HC:=aa (bu V F s c cap (sO ⟨w.heap.size+1+1+1,0,nO⟩) [g] 1 _ (((hcd.below B00 (lR _)).alloc _).alloc _) L0 (by simp))
 rw[hck] at HC
 clear hcd hs L0 G00 B00
 go_enter Tryz.func81,Tryz.ntmps81
 go_wp2_with (go_at_call 142;fail)
 refine HC.out.mono ?_
 rintro e w1 ⟨rfl,hb1⟩
 have G1:=(G0.alloc _).call hb1
 have I1:=(I0.alloc _).call hb1
 have B1:Below w.heap.size w w1:=(B0.alloc B0.size _).trans (hb1.mono (by simp;omega))
 have u0:w1.cell? ⟨w.heap.size+1+1,0,nO⟩=sO (I Y 0):=by
  rw[hb1.cell (by simp),j0 _ _ _ (by simp)];exact v0
 have u1:w1.cell? ⟨w.heap.size+1+1,1,nO⟩=sO (I Y vn):=by
  rw[hb1.cell (by simp),j0 _ _ _ (by simp)];exact v1
 have uz:w.heap.size+1+1 < w1.heap.size:=by have:=hb1.size;simp at this;omega
 clear hb1 HC G0 I0 B0 v0 v1
 obtain⟨⟨g0,g1,g2,g3,g4,g5,g6⟩,gz⟩:=id G1
 simp only[j1] at g0 g1 g2 g3 g4 g5 g6
 go_wp2
 go_ret2
 exact⟨rfl,B1⟩

theorem Ad (V F:Int)(s:Option Addr)(c:List Ins)(cap:Nat)(g:Gs)(ss:Option Addr)(gc:Nat)(vn site:Int)(w:World)(hcd:CodeAt w s c)(hs:IntsAt w ss g.s)(h1:g.s.length≤gc)(h2:gc≤maxLen)(hck:aF V F c [g]=0):
  Calls pG 81 #[pv V F s c cap,gv g ss gc,Ag #[I Y 1,I Y vn],I Y site] w λe w'=>e=Rt (Tu #[Bb (g.sp.has vn),I Y 0])∧Below w.heap.size w w':=by
 obtain⟨G00,B00⟩:=ks w V F s c cap g ss gc
 have G0:=G00.alloc (Cc #[I Y 1,I Y vn] 82)
 have B0:=B00.alloc B00.size (Cc #[I Y 1,I Y vn] 82)
 have I0:=(hs.below B00 (lR _)).alloc (Cc #[I Y 1,I Y vn] 82)
 have L0:=GsAt.new1 _ g ss gc I0 h1 h2
 simp only[zA] at L0
 have v0:((pgW w V F s c cap g ss gc).alloc (Cc #[I Y 1,I Y vn] 82)).cell? ⟨w.heap.size+1+1,0,nO⟩=sO (I Y 1):=by simp[go_sem]
 have v1:((pgW w V F s c cap g ss gc).alloc (Cc #[I Y 1,I Y vn] 82)).cell? ⟨w.heap.size+1+1,1,nO⟩=sO (I Y vn):=by simp[go_sem]
 have HC:=aa (bu V F s c cap (sO ⟨w.heap.size+1+1+1,0,nO⟩) [g] 1 _ (((hcd.below B00 (lR _)).alloc _).alloc _) L0 (by simp))
 have hH:=λw=>yk g.sp vn w
 rw[ll (pY hck).2,show (decide ((0:Int)=0)&&g.sp.has vn)=g.sp.has vn from rfl] at hH
 have HH:=aa hH
 clear hH
 generalize g.sp.has vn=r at HH ⊢
 rw[hck] at HC
 clear hcd hs L0 G00 B00
 go_enter Tryz.func81,Tryz.ntmps81
 go_wp2_with (go_at_call 142;fail)
 refine HC.out.mono ?_
 rintro e w1 ⟨rfl,hb1⟩
 have G1:=(G0.alloc _).call hb1
 have I1:=(I0.alloc _).call hb1
 have B1:Below w.heap.size w w1:=(B0.alloc B0.size _).trans (hb1.mono (by simp;omega))
 have u0:w1.cell? ⟨w.heap.size+1+1,0,nO⟩=sO (I Y 1):=by
  rw[hb1.cell (by simp),j0 _ _ _ (by simp)];exact v0
 have u1:w1.cell? ⟨w.heap.size+1+1,1,nO⟩=sO (I Y vn):=by
  rw[hb1.cell (by simp),j0 _ _ _ (by simp)];exact v1
 have uz:w.heap.size+1+1 < w1.heap.size:=by have:=hb1.size;simp at this;omega
 clear hb1 HC G0 I0 B0 v0 v1
 obtain⟨⟨g0,g1,g2,g3,g4,g5,g6⟩,gz⟩:=id G1
 simp only[j1] at g0 g1 g2 g3 g4 g5 g6
 go_wp2_with (go_at_call 143;fail)
 refine(HH.out _).mono ?_
 rintro e w2 ⟨rfl,hb2⟩
 go_wp2
 go_ret2
 exact⟨rfl,B1.trans (hb2.mono B1.size)⟩

theorem vO (V F:Int)(s:Option Addr)(c:List Ins)(cap:Nat)(g:Gs)(ss:Option Addr)(gc:Nat)(vn site:Int)(w:World)(hcd:CodeAt w s c)(hs:IntsAt w ss g.s)(h1:g.s.length≤gc)(h2:gc≤maxLen)(hck:aF V F c [g]=0):
  Calls pG 81 #[pv V F s c cap,gv g ss gc,Ag #[I Y 2,I Y vn],I Y site] w λe w'=>e=Rt (Tu #[Bb ((g.t&&decide (vn=1))||(g.f&&decide (vn=0))),I Y 0])∧Below w.heap.size w w':=by
 obtain⟨G00,B00⟩:=ks w V F s c cap g ss gc
 have G0:=G00.alloc (Cc #[I Y 2,I Y vn] 82)
 have B0:=B00.alloc B00.size (Cc #[I Y 2,I Y vn] 82)
 have I0:=(hs.below B00 (lR _)).alloc (Cc #[I Y 2,I Y vn] 82)
 have L0:=GsAt.new1 _ g ss gc I0 h1 h2
 simp only[zA] at L0
 have v0:((pgW w V F s c cap g ss gc).alloc (Cc #[I Y 2,I Y vn] 82)).cell? ⟨w.heap.size+1+1,0,nO⟩=sO (I Y 2):=by simp[go_sem]
 have v1:((pgW w V F s c cap g ss gc).alloc (Cc #[I Y 2,I Y vn] 82)).cell? ⟨w.heap.size+1+1,1,nO⟩=sO (I Y vn):=by simp[go_sem]
 have HC:=aa (bu V F s c cap (sO ⟨w.heap.size+1+1+1,0,nO⟩) [g] 1 _ (((hcd.below B00 (lR _)).alloc _).alloc _) L0 (by simp))
 rw[hck] at HC
 have HR:Hid (((g.t&&decide (vn=1))||(g.f&&decide (vn=0)))=((g.t&&decide (vn=1))||(g.f&&decide (vn=0)))):=rfl
 generalize hr:((g.t&&decide (vn=1))||(g.f&&decide (vn=0)))=r at HR ⊢
 have HR2:=aa hr
 clear hr HR
 clear hcd hs L0 G00 B00
 go_enter Tryz.func81,Tryz.ntmps81
 go_wp2_with (go_at_call 142;fail)
 refine HC.out.mono ?_
 rintro e w1 ⟨rfl,hb1⟩
 have G1:=(G0.alloc _).call hb1
 have I1:=(I0.alloc _).call hb1
 have B1:Below w.heap.size w w1:=(B0.alloc B0.size _).trans (hb1.mono (by simp;omega))
 have u0:w1.cell? ⟨w.heap.size+1+1,0,nO⟩=sO (I Y 2):=by
  rw[hb1.cell (by simp),j0 _ _ _ (by simp)];exact v0
 have u1:w1.cell? ⟨w.heap.size+1+1,1,nO⟩=sO (I Y vn):=by
  rw[hb1.cell (by simp),j0 _ _ _ (by simp)];exact v1
 have uz:w.heap.size+1+1 < w1.heap.size:=by have:=hb1.size;simp at this;omega
 clear hb1 HC G0 I0 B0 v0 v1
 obtain⟨⟨g0,g1,g2,g3,g4,g5,g6⟩,gz⟩:=id G1
 simp only[j1] at g0 g1 g2 g3 g4 g5 g6
 obtain⟨n,sp,t,f,sl⟩:=g
 cases t
 ·cases f
  ·go_wp2
   go_ret2
   exact⟨dk (by rw[←HR2.out];rfl) rfl,B1⟩
  ·by_cases hv:vn=0
   ·subst hv
    go_wp2
    go_ret2
    exact⟨dk (by rw[←HR2.out];rfl) rfl,B1⟩
   ·have hv':(vn==0)=false:=by simpa using hv
    go_wp2
    go_ret2
    exact⟨dk (by rw[←HR2.out];simp[hv]) rfl,B1⟩
 ·by_cases hv:vn=1
  ·subst hv
   go_wp2
   go_ret2
   exact⟨dk (by rw[←HR2.out];simp) rfl,B1⟩
  ·have hv':(vn==1)=false:=by simpa using hv
   cases f
   ·go_wp2
    go_ret2
    exact⟨dk (by rw[←HR2.out];simp[hv]) rfl,B1⟩
   ·by_cases hz:vn=0
    ·subst hz
     go_wp2
     go_ret2
     exact⟨dk (by rw[←HR2.out];rfl) rfl,B1⟩
    ·have hz':(vn==0)=false:=by simpa using hz
     go_wp2
     go_ret2
     exact⟨dk (by rw[←HR2.out];simp[hv,hz]) rfl,B1⟩

theorem vG (V F:Int)(s:Option Addr)(c:List Ins)(cap:Nat)(g:Gs)(ss:Option Addr)(gc:Nat)(vn site:Int)(w:World)(hcd:CodeAt w s c)(hs:IntsAt w ss g.s)(h1:g.s.length≤gc)(h2:gc≤maxLen)(hck:aF V F c [g]=0):
  Calls pG 81 #[pv V F s c cap,gv g ss gc,Ag #[I Y 3,I Y vn],I Y site] w λe w'=>e=Rt (Tu #[Bb (g.s.contains site),I Y 0])∧Below w.heap.size w w':=by
 obtain⟨G00,B00⟩:=ks w V F s c cap g ss gc
 have G0:=G00.alloc (Cc #[I Y 3,I Y vn] 82)
 have B0:=B00.alloc B00.size (Cc #[I Y 3,I Y vn] 82)
 have I0:=(hs.below B00 (lR _)).alloc (Cc #[I Y 3,I Y vn] 82)
 have L0:=GsAt.new1 _ g ss gc I0 h1 h2
 simp only[zA] at L0
 have v0:((pgW w V F s c cap g ss gc).alloc (Cc #[I Y 3,I Y vn] 82)).cell? ⟨w.heap.size+1+1,0,nO⟩=sO (I Y 3):=by simp[go_sem]
 have v1:((pgW w V F s c cap g ss gc).alloc (Cc #[I Y 3,I Y vn] 82)).cell? ⟨w.heap.size+1+1,1,nO⟩=sO (I Y vn):=by simp[go_sem]
 have HC:=aa (bu V F s c cap (sO ⟨w.heap.size+1+1+1,0,nO⟩) [g] 1 _ (((hcd.below B00 (lR _)).alloc _).alloc _) L0 (by simp))
 have hgl:g.s.length≤9223372036854775807:=by unfold maxLen at h2;omega
 rw[hck] at HC
 clear hcd hs L0 G00 B00
 go_enter Tryz.func81,Tryz.ntmps81
 go_wp2_with (go_at_call 142;fail)
 refine HC.out.mono ?_
 rintro e w1 ⟨rfl,hb1⟩
 have G1:=(G0.alloc _).call hb1
 have I1:=(I0.alloc _).call hb1
 have B1:Below w.heap.size w w1:=(B0.alloc B0.size _).trans (hb1.mono (by simp;omega))
 have u0:w1.cell? ⟨w.heap.size+1+1,0,nO⟩=sO (I Y 3):=by
  rw[hb1.cell (by simp),j0 _ _ _ (by simp)];exact v0
 have u1:w1.cell? ⟨w.heap.size+1+1,1,nO⟩=sO (I Y vn):=by
  rw[hb1.cell (by simp),j0 _ _ _ (by simp)];exact v1
 have uz:w.heap.size+1+1 < w1.heap.size:=by have:=hb1.size;simp at this;omega
 clear hb1 HC G0 I0 B0 v0 v1
 obtain⟨⟨g0,g1,g2,g3,g4,g5,g6⟩,gz⟩:=id G1
 simp only[j1] at g0 g1 g2 g3 g4 g5 g6
 go_wp2_with (go_at_call 144;fail)
 refine(iG site ss gc g.s _ hgl I1).mono ?_
 rintro e w2 ⟨rfl,rfl⟩
 go_wp2
 go_ret2
 exact⟨dk (by simp) rfl,B1⟩

theorem wH (V F:Int)(s:Option Addr)(c:List Ins)(cap:Nat)(g:Gs)(ss:Option Addr)(gc:Nat)(vk vn site:Int)(w:World)(hcd:CodeAt w s c)(hs:IntsAt w ss g.s)(h1:g.s.length≤gc)(h2:gc≤maxLen)(hck:aF V F c [g]=0)(hk0:(vk==0)=false)(hk1:(vk==1)=false)(hk2:(vk==2)=false)(hk3:(vk==3)=false):
  Calls pG 81 #[pv V F s c cap,gv g ss gc,Ag #[I Y vk,I Y vn],I Y site] w λe w'=>e=Rt (Tu #[Bb (false),I Y 6])∧Below w.heap.size w w':=by
 obtain⟨G00,B00⟩:=ks w V F s c cap g ss gc
 have G0:=G00.alloc (Cc #[I Y vk,I Y vn] 82)
 have B0:=B00.alloc B00.size (Cc #[I Y vk,I Y vn] 82)
 have I0:=(hs.below B00 (lR _)).alloc (Cc #[I Y vk,I Y vn] 82)
 have L0:=GsAt.new1 _ g ss gc I0 h1 h2
 simp only[zA] at L0
 have v0:((pgW w V F s c cap g ss gc).alloc (Cc #[I Y vk,I Y vn] 82)).cell? ⟨w.heap.size+1+1,0,nO⟩=sO (I Y vk):=by simp[go_sem]
 have v1:((pgW w V F s c cap g ss gc).alloc (Cc #[I Y vk,I Y vn] 82)).cell? ⟨w.heap.size+1+1,1,nO⟩=sO (I Y vn):=by simp[go_sem]
 have HC:=aa (bu V F s c cap (sO ⟨w.heap.size+1+1+1,0,nO⟩) [g] 1 _ (((hcd.below B00 (lR _)).alloc _).alloc _) L0 (by simp))
 rw[hck] at HC
 exact ph
theorem rW {w:World}{B n b j z:Nat}{e:TypeId}{v u:Value}{xs:List Value}(h:w.ownsRow B e z v n xs)(hb:b < B):(w.setCell ⟨b,j,nO⟩ u).ownsRow B e z v n xs:=
 ⟨h.1,h.2.imp id λ⟨g,cap,cur,r1,r2,r3,r4⟩=>⟨g,cap,cur,r1,r2,by rw[hSe _ _ _ _ (by show g≠b;omega)];exact r3,r4⟩⟩

def mP (a b:List Int)(k:Nat):List Int:=((List.range k).map λn:Nat=>(n:Int)).filter λx=>a.contains x||b.contains x
end
section
theorem lQ:∀(a b:List Int),a.Pairwise (· < ·)→b.Pairwise (· < ·)→(∀x,x∈a↔x∈b)→a=b
 |[],[],_,_,_=>rfl
 |[],y::b,_,_,h=>absurd ((h y).2 (by simp)) (by simp)
 |x::a,[],_,_,h=>absurd ((h x).1 (by simp)) (by simp)
 |x::a,y::b,ha,hb,h=>by
  rw[List.pairwise_cons] at ha hb
  have exy:x=y:=by
   have h1:=(h x).1 (by simp)
   have h2:=(h y).2 (by simp)
   rw[j6] at h1 h2
   rcases h1 with e|h1
   ·exact e
   ·rcases h2 with e|h2
    ·exact e.symm
    ·have:=ha.1 y h2
     have:=hb.1 x h1
     omega
  subst exy
  rw[lQ a b ha.2 hb.2 λz=> ?_]
  constructor
  ·intro hz
   have:=(h z).1 (by simp[hz])
   rw[j6] at this
   rcases this with e|h1
   ·have:=ha.1 z hz;omega
   ·exact h1
  ·intro hz
   have:=(h z).2 (by simp[hz])
   rw[j6] at this
   rcases this with e|h1
   ·have:=hb.1 z hz;omega
   ·exact h1

theorem pS (a b:List Int)(k:Nat)(x:Int):x∈mP a b k↔(0≤x∧x < k)∧(x∈a∨x∈b):=by
 unfold mP
 rw[j2,j7]
 simp only[j3,Bool.or_eq_true,List.contains_iff_mem]
 constructor
 ·rintro ⟨⟨n,hn,rfl⟩,h⟩
  exact⟨⟨by omega,by omega⟩,h⟩
 ·rintro ⟨⟨h0,h1⟩,h⟩
  exact⟨⟨x.toNat,by omega,by omega⟩,h⟩

theorem mX (a b:List Int)(k:Nat):(mP a b k).Pairwise (· < ·):=by
 unfold mP
 refine j4.filter _ ?_
 rw[j8]
 exact j4.imp (λh=>by omega) j9

open Go.Lib in
theorem rZ (l:List Int)(h:l.Pairwise (· ≤·)):(compact l).Pairwise (· < ·)∧∀x,x∈compact l↔x∈l:=by
 have get:∀j (hj:j < l.length),l.toArray[j]! =l[j]:=λj hj=>by simp[hj]
 have mono:∀i j (hi:i < l.length) (hj:j < l.length),i≤j→l[i]≤l[j]:=by
  intro i j hi hj hij
  by_cases e:i=j
  ·subst e;exact Int.le_refl _
  ·exact List.pairwise_iff_getElem.1 h i j hi hj (by omega)
 constructor
 ·unfold compact compactUpTo
  rw[j8]
  refine j4.imp_of_mem ?_ (j4.filter _ j9)
  intro i j hi hj hij
  rw[j2,j3] at hi hj
  rw[get i hi.1,get j hj.1]
  have hk:=hj.2
  unfold keeps at hk
  rw[decide_eq_true_eq] at hk
  rcases hk with e|hne
  ·omega
  ·rw[get j hj.1,get (j - 1) (by omega)] at hne
   have h1:=mono i (j - 1) hi.1 (by omega) (by omega)
   have h2:=mono (j - 1) j (by omega) hj.1 (by omega)
   omega
 ·intro x
  unfold compact compactUpTo
  rw[j7]
  constructor
  ·rintro ⟨j,hj,rfl⟩
   rw[j2,j3] at hj
   rw[get j hj.1]
   exact gM _
  ·intro hx
   obtain⟨j,hj,rfl⟩:=List.getElem_of_mem hx
   have ex:∃i,i≤j∧∃(hi:i < l.length),l[i]=l[j]∧keeps l.toArray i=true:=by
    clear hx
    induction j with
    |zero=>exact⟨0,lR _,hj,rfl,by simp[keeps]⟩
    |succ j ih=>
     by_cases e:l[j+1]=l[j]
     ·obtain⟨i,hi,hil,h1,h2⟩:=ih (by omega)
      exact⟨i,by omega,hil,by rw[h1,e],h2⟩
     ·refine⟨j+1,lR _,hj,rfl,?_⟩
      unfold keeps
      rw[decide_eq_true_eq]
      right
      rw[get (j+1) hj,get (j+1 - 1) (by omega)]
      exact e
   obtain⟨i,-,hil,h1,h2⟩:=ex
   refine⟨i,?_,by rw[get i hil,h1]⟩
   rw[j2,j3]
   exact⟨hil,h2⟩

theorem lZ (g h:Gs)(hg:∀x∈g.s,0≤x∧x < 60)(hh:∀x∈h.s,0≤x∧x < 60):cy [g,h]=mP g.s h.s 60:=by
 have hs:(([g,h].flatMap Gs.s).mergeSort λx y=>decide (x≤y)).Pairwise (· ≤·):=by
  have:=List.pairwise_mergeSort (le:=λx y:Int=>decide (x≤y)) (by intro a b c;simp;omega) (by intro a b;simp;omega) ([g,h].flatMap Gs.s)
  exact this.imp λh=>by simpa using h
 obtain⟨h1,h2⟩:=rZ _ hs
 refine lQ _ _ h1 (mX _ _ _) λx=> ?_
 rw[show cy [g,h]=Go.Lib.compact (([g,h].flatMap Gs.s).mergeSort λx y=>decide (x≤y)) from rfl,h2,List.mem_mergeSort,pS]
 simp only[List.flatMap_cons,List.flatMap_nil,List.append_nil,List.mem_append]
 constructor
 ·rintro (h|h)
  ·exact⟨hg x h,.inl h⟩
  ·exact⟨hh x h,.inr h⟩
 ·exact λh=>h.2

theorem Cx {c:List Ins}(hl:c.length≤60){x:Int}(h:bS c x=true):0≤x∧x < 60:=by
 unfold bS at h
 simp only[Bool.and_eq_true,decide_eq_true_eq] at h
 omega

theorem dt {c:List Ins}{g:Gs}(hl:c.length≤60)(h:aw c g=0):(∀x∈g.s,0≤x∧x < 60)∧cV g.s=true:=by
 unfold aw at h
 split at h
 ·contradiction
 ·split at h
  ·cases h
  ·split at h
   ·cases h
   ·rename_i h1 h2
    refine⟨λx hx=> ?_,by simpa using h2⟩
    have:g.s.all (bS c)=true:=by simpa using h1
    exact Cx hl (List.all_eq_true.1 this x hx)
theorem eI {l:List Int}(hr:cV l=true)(hb:∀x∈l,0≤x∧x < 60):l.length≤60:=by
 have key:∀k (h:k < l.length),(k:Int)≤l[k]:=by
  intro k
  induction k with
  |zero=>intro h;exact(hb _ (gM h)).1
  |succ k ih=>
   intro h
   have h1:=ih (by omega)
   have h2:=(rC l).1 hr k h
   omega
 by_cases h0:l.length=0
 ·omega
 ·have h1:=key (l.length - 1) (by omega)
  have h2:=(hb _ (gM (show l.length - 1 < l.length by omega))).2
  omega
end
section
open Go.RowKit
def da (op:Sp→Sp→Sp)(g h:Gs):Gs:=⟨g.n||h.n,op g.sp h.sp,g.t||h.t,g.f||h.f,cy [g,h]⟩

theorem oV {V F:Int}{c:List Ins}{g h:Gs}(hk:aF V F c [g,h]=0):ag V F c=0∧aw c g=0∧aw c h=0:=by
 unfold aF at hk
 split at hk
 ·rename_i hp
  simp only[bX] at hk
  split at hk
  ·rename_i hg
   split at hk
   ·rename_i hh
    exact⟨hp,hg,hh⟩
   ·contradiction
  ·contradiction
 ·contradiction

theorem kq {V F:Int}{c:List Ins}{g h:Gs}(hk:aF V F c [g,h]=0):((∀x∈g.s,0≤x∧x < 60)∧cV g.s=true)∧((∀x∈h.s,0≤x∧x < 60)∧cV h.s=true):=by
 obtain⟨a,b,d⟩:=oV hk
 have hl:c.length≤60:=by
  unfold ag at a
  split at a
  ·contradiction
  ·split at a
   ·contradiction
   ·omega
 exact⟨dt hl b,dt hl d⟩

theorem Fr (V F:Int)(s:Option Addr)(c:List Ins)(cap:Nat)(g:Gs)(ss:Option Addr)(gc:Nat)(h:Gs)(st:Option Addr)(hc:Nat)(w:World)(hcd:CodeAt w s c)(hs:IntsAt w ss g.s)(h1:g.s.length≤gc)(h2:gc≤maxLen)(ht:IntsAt w st h.s)(h3:h.s.length≤hc)(h4:hc≤maxLen):
  Calls pG 161 #[pv V F s c cap,gv g ss gc,gv h st hc] w λe w'=>e=Rt (Tu #[Bb (if aF V F c [g,h]=0 then cB g h else false),I Y (aF V F c [g,h])])∧Below w.heap.size w w':=by
 by_cases hck:aF V F c [g,h]=0
 ·refine(pi V F s c cap g ss gc h st hc w hcd hs h1 h2 ht h3 h4 hck).mono ?_
  rintro e w' ⟨rfl,hb⟩
  exact⟨by rw[if_pos hck,hck],hb⟩
 ·refine(ya V F s c cap g ss gc h st hc w hcd hs h1 h2 ht h3 h4 hck).mono ?_
  rintro e w' ⟨rfl,hb⟩
  exact⟨by rw[if_neg hck],hb⟩

def gA (u vk:Int):Int:=if u=0 then(if vk < 0∨3 < vk then 6 else 0) else u

theorem Gi (V F:Int)(s:Option Addr)(c:List Ins)(cap:Nat)(g:Gs)(ss:Option Addr)(gc:Nat)(vk vn site:Int)(w:World)(hcd:CodeAt w s c)(hs:IntsAt w ss g.s)(h1:g.s.length≤gc)(h2:gc≤maxLen):
  Calls pG 81 #[pv V F s c cap,gv g ss gc,Ag #[I Y vk,I Y vn],I Y site] w λe w'=>e=Rt (Tu #[Bb (if gA (aF V F c [g]) vk=0 then cA g vk vn site else false),I Y (gA (aF V F c [g]) vk)])∧Below w.heap.size w w':=by
 by_cases hck:aF V F c [g]=0
 ·by_cases k0:vk=0
  ·subst k0
   refine(wh V F s c cap g ss gc vn site w hcd hs h1 h2 hck).mono ?_
   rintro e w' ⟨rfl,hb⟩
   exact⟨by simp[gA,hck,cA],hb⟩
  by_cases k1:vk=1
  ·subst k1
   refine(Ad V F s c cap g ss gc vn site w hcd hs h1 h2 hck).mono ?_
   rintro e w' ⟨rfl,hb⟩
   exact⟨by simp[gA,hck,cA],hb⟩
  by_cases k2:vk=2
  ·subst k2
   refine(vO V F s c cap g ss gc vn site w hcd hs h1 h2 hck).mono ?_
   rintro e w' ⟨rfl,hb⟩
   exact⟨by simp[gA,hck,cA],hb⟩
  by_cases k3:vk=3
  ·subst k3
   refine(vG V F s c cap g ss gc vn site w hcd hs h1 h2 hck).mono ?_
   rintro e w' ⟨rfl,hb⟩
   exact⟨by simp[gA,hck,cA],hb⟩
  refine(wH V F s c cap g ss gc vk vn site w hcd hs h1 h2 hck (by simpa using k0) (by simpa using k1) (by simpa using k2) (by simpa using k3)).mono ?_
  rintro e w' ⟨rfl,hb⟩
  have hr:vk < 0∨3 < vk:=by omega
  have hk:gA (aF V F c [g]) vk=6:=by unfold gA;rw[if_pos hck,if_pos hr]
  exact⟨by rw[hk];rfl,hb⟩
 ·refine(AE V F s c cap g ss gc vk vn site w hcd hs h1 h2 hck).mono ?_
  rintro e w' ⟨rfl,hb⟩
  have hk:gA (aF V F c [g]) vk=aF V F c [g]:=by unfold gA;rw[if_neg hck]
  exact⟨by rw[hk,if_neg hck],hb⟩
end
section
open Go.RowKit
attribute [local go_sem ↓] Go.wp_at_zero Go.wp_at_succ
structure SCtx (V F:Int) (c:List Ins) (x:Pic) (vc fc:Nat) (i:Ins) (at_:Int):Prop where
 h0:ag V F c=0
 kx:PicOk V F c x
 hi:i=aZ c at_
 a0:0≤at_
 a1:at_ < c.length
 cv:x.vars.length≤vc∧vc≤maxLen
 cf:x.flds.length≤fc∧fc≤maxLen
section
variable {V F:Int} {c:List Ins} {x:Pic} {vc fc:Nat} {i:Ins} {at_:Int}
theorem SCtx.one (K:SCtx V F c x vc fc i at_):bC V F c.length i=0:=by rw[K.hi];exact(bM K.h0).each _ (gO K.a0 K.a1)
theorem SCtx.lens (K:SCtx V F c x vc fc i at_):x.vars.length≤8∧c.length≤60∧x.flds.length=c.length∧0≤F∧F≤3∧0≤V:=by
 have hp:=bM K.h0
 have:=hp.v1
 have:=hp.v8
 have:=hp.f0
 have:=hp.f3
 have:=hp.len
 have:=K.kx.vars
 have:=K.kx.flds
 omega
theorem ki {x:Pic}{k:Nat}(h:k < x.vars.length):gAt x (k:Int)=x.vars[k]:=by unfold gAt;simp[List.getD,q0 h]
theorem SCtx.varA (K:SCtx V F c x vc fc i at_)(hA:nA i.k=true):∃k:Nat,i.a=k∧k < x.vars.length:=by
 have:=(bd K.one).2.2.1 hA
 have hv:=K.kx.vars
 obtain⟨k,hk⟩:=j5 this.1
 exact⟨k,hk,by omega⟩
theorem SCtx.varB (K:SCtx V F c x vc fc i at_)(hB:nB i.k=true):∃k:Nat,i.b=k∧k < x.vars.length:=by
 have:=(bd K.one).2.2.2.1 hB
 have hv:=K.kx.vars
 obtain⟨k,hk⟩:=j5 this.1
 exact⟨k,hk,by omega⟩
theorem SCtx.varTo (K:SCtx V F c x vc fc i at_)(hT:nTo i.k=true):∃k:Nat,i.tgt=k∧k < x.vars.length:=by
 have:=(bd K.one).2.1 hT
 have hv:=K.kx.vars
 obtain⟨k,hk⟩:=j5 this.1
 exact⟨k,hk,by omega⟩
theorem SCtx.uno (K:SCtx V F c x vc fc i at_){g:Gs}(hg:aw c g=0):aF V F c [g]=0:=by unfold aF;rw[if_pos K.h0];unfold bX;rw[if_pos hg];rfl
theorem SCtx.duo (K:SCtx V F c x vc fc i at_){g h:Gs}(hg:aw c g=0)(hh:aw c h=0):aF V F c [g,h]=0:=by unfold aF;rw[if_pos K.h0];unfold bX;rw[if_pos hg];unfold bX;rw[if_pos hh];rfl
end
theorem lC (sb:Nat)(i:Ins)(V F:Int)(s:Option Addr)(c:List Ins)(cap:Nat)(at_:Int)(x:Pic)(vs:Option Addr)(vc:Nat)(fs:Option Addr)(fc:Nat)(ev:Value)(wr fl:Bool)(w:World)(hS:Cells w sb (aK i V F s c cap at_ x vs vc fs fc ev wr fl))(hc:CodeAt w s c)(hx:PicAt w x vs fs)(K:SCtx V F c x vc fc i at_)(hA:nA i.k=true):
  Calls pG 95 #[Pp (sO ⟨sb,0,nO⟩)] w λe w'=>e=Rt (Tu #[Bb (ci (gAt x i.a)),Bb (cT (gAt x i.a))])∧Below w.heap.size w w':=by
 obtain⟨k,ek,hk⟩:=K.varA hA
 have eg:gAt x i.a=x.vars[k]:=by rw[ek,ki hk]
 rw[eg]
 have hgk:=K.kx.gv _ (gM hk)
 obtain⟨b1,o1,e1,ss1,g1,G1,I1,k1,m1⟩:=hx.1 k hk
 subst e1
 have n0:(0:Int)≤(k:Int):=by omega
 have n1:(k:Int) < (x.vars.length:Int):=by omega
 have HT:Hid (∀wx,Below w.heap.size w wx→Calls pG 160 #[pv V F s c cap,gv x.vars[k] ss1 g1] wx λe w'=>e=Rt (Tu #[Bb (ci x.vars[k]),Bb (cT x.vars[k]),I Y 0])∧Below wx.heap.size wx w'):=λwx hb=>Bl V F s c cap x.vars[k] ss1 g1 wx (hc.call hb) (I1.call hb) k1 m1 (K.uno hgk)
 have HKZ:Hid (∀wx,Below w.heap.size w wx→(wx.cell? ⟨sb,6,nO⟩=sO (I Y V)∧wx.cell? ⟨sb,7,nO⟩=sO (I Y F)∧wx.cell? ⟨sb,8,nO⟩=sO (U s c.length cap))∧(wx.cell? ⟨sb,2,nO⟩=sO (I Y (k:Int))∧wx.cell? ⟨sb,11,nO⟩=sO (U (sO ⟨b1,o1,nO⟩) x.vars.length vc))∧(wx.cell? ⟨b1,o1+k * 7,nO⟩=sO (Bb x.vars[k].n)∧wx.cell? ⟨b1,o1+k * 7+1,nO⟩=sO (Bb x.vars[k].sp.n)∧wx.cell? ⟨b1,o1+k * 7+2,nO⟩=sO (I Y x.vars[k].sp.lo)∧wx.cell? ⟨b1,o1+k * 7+3,nO⟩=sO (I Y x.vars[k].sp.hi)∧wx.cell? ⟨b1,o1+k * 7+4,nO⟩=sO (Bb x.vars[k].t)∧wx.cell? ⟨b1,o1+k * 7+5,nO⟩=sO (Bb x.vars[k].f)∧wx.cell? ⟨b1,o1+k * 7+6,nO⟩=sO (U ss1 x.vars[k].s.length g1))):=λwx hb=>⟨⟨(hS.call hb).1 6 _ rfl,(hS.call hb).1 7 _ rfl,(hS.call hb).1 8 _ rfl⟩,⟨by rw[←ek];exact(hS.call hb).1 2 _ rfl,(hS.call hb).1 11 _ rfl⟩,(G1.call hb).1⟩
 clear hS hc hx eg ek hA
 go_enter Tryz.func95,Tryz.ntmps95
 go_upto_region 1 with fail
 have B1:Below w.heap.size w w.drew:=(bR _ _).drew
 refine wp_region_held_drew (S:=(λwx=>(wx.cell? ⟨sb,6,nO⟩=sO (I Y V)∧wx.cell? ⟨sb,7,nO⟩=sO (I Y F)∧wx.cell? ⟨sb,8,nO⟩=sO (U s c.length cap))∧(wx.cell? ⟨sb,2,nO⟩=sO (I Y (k:Int))∧wx.cell? ⟨sb,11,nO⟩=sO (U (sO ⟨b1,o1,nO⟩) x.vars.length vc))∧(wx.cell? ⟨b1,o1+k * 7,nO⟩=sO (Bb x.vars[k].n)∧wx.cell? ⟨b1,o1+k * 7+1,nO⟩=sO (Bb x.vars[k].sp.n)∧wx.cell? ⟨b1,o1+k * 7+2,nO⟩=sO (I Y x.vars[k].sp.lo)∧wx.cell? ⟨b1,o1+k * 7+3,nO⟩=sO (I Y x.vars[k].sp.hi)∧wx.cell? ⟨b1,o1+k * 7+4,nO⟩=sO (Bb x.vars[k].t)∧wx.cell? ⟨b1,o1+k * 7+5,nO⟩=sO (Bb x.vars[k].f)∧wx.cell? ⟨b1,o1+k * 7+6,nO⟩=sO (U ss1 x.vars[k].s.length g1)))) (by kernel_rfl) (HKZ.out _ B1) (λhHeld=> ?_)
 generalize w.drew=w1 at *
 refine vH 0 ?_ ?_
 refine vH 1 ?_ ?_
 refine vH 2 ?_ ?_
 refine vH 3 ?_ ?_
 refine vH 4 ?_ ?_
 refine vH 5 ?_ ?_
 refine vH 6 ?_ ?_
 refine vH 7 ?_ ?_
 refine vH 8 ?_ ?_
 refine vH 9 ?_ ?_
 refine vH 10 ?_ ?_
 refine vH 11 ?_ ?_
 refine vH 12 ?_ ?_
 refine vH 13 ?_ ?_
 refine vH 14 ?_ ?_
 refine vH 15 ?_ ?_
 refine wpAnyH_ready (rs:=[16]) (by kernel_rfl) (by simp) ?_
 refine AllReadyH.cons rfl (λK hK=> ?_) AllReadyH.nil
 go_simp
 refine(HT.out w1 B1).mono ?_
 rintro e w2 ⟨rfl,hb2⟩
 have B2:=B1.trans (hb2.mono (B1.size))
 refine hK.out _ _ (HKZ.out _ B2) (λhHeld2=> ?_)
 clear hK K hb2 B1
 refine sm ?_
 refine vH 17 ?_ ?_
 refine vH 18 ?_ ?_
 refine vH 19 ?_ ?_
 refine vH 20 ?_ ?_
 refine vH 21 ?_ ?_
 refine vH 22 ?_ ?_
 refine vH 23 ?_ ?_
 refine wpAnyH_done (by kernel_rfl) ?_ _
 go_wp2
 refine bodyPost_ret (v:=Tu #[Bb (ci x.vars[k]),Bb (cT x.vars[k])]) (by simp[results,Tryz.results95,go_sem]) rfl ⟨rfl,B2⟩
def ModS (sb:Nat)(w w':World):Prop:=Below sb w w'∧∀b,b < w.heap.size→b≠sb→w'.heap[b]? =w.heap[b]?
theorem ModS.of {sb:Nat}{w w':World}(h:Below w.heap.size w w')(hs:sb < w.heap.size):ModS sb w w':=⟨h.mono (Nat.le_of_lt hs),λb hb _=>h.block b hb⟩
theorem ModS.trans {sb:Nat}{w w1 w2:World}(h:ModS sb w w1)(h':ModS sb w1 w2):ModS sb w w2:=⟨h.1.trans h'.1,λb hb hne=>by rw[h'.2 b (lL hb h.1.size) hne,h.2 b hb hne]⟩
theorem ModS.put {sb:Nat}{w w1:World}(h:ModS sb w w1)(j:Nat)(u:Value):ModS sb w (w1.setCell ⟨sb,j,nO⟩ u):=⟨h.1.setCell (lR _) _,λb hb hne=>by rw[hSe _ _ _ _ hne];exact h.2 b hb hne⟩
theorem pK (sb:Nat)(i:Ins)(V F:Int)(s:Option Addr)(c:List Ins)(cap:Nat)(at_:Int)(x:Pic)(vs:Option Addr)(vc:Nat)(fs:Option Addr)(fc:Nat)(ev:Value)(wr fl:Bool)(w0 w:World)(hS:Cells w sb (aK i V F s c cap at_ x vs vc fs fc ev wr fl))(hc0:CodeAt w0 s c)(hx0:PicAt w0 x vs fs)(hz0:w0.heap.size≤sb)(hB0:Below w0.heap.size w0 w)(K:SCtx V F c x vc fc i at_)(hA:nA i.k=true):
  Calls pG 154 #[Pp (sO ⟨sb,0,nO⟩)] w λe w'=>(∃ss gc,e=Rt (U ss (gAt x i.a).s.length gc)∧IntsAt w0 ss (gAt x i.a).s∧(gAt x i.a).s.length≤gc∧gc≤maxLen)∧Cells w' sb (aK i V F s c cap at_ x vs vc fs fc ev (bK (gAt x i.a)) fl)∧ModS sb w w':=by
 have hx:=hx0
 obtain⟨k,ek,hk⟩:=K.varA hA
 have eg:gAt x i.a=x.vars[k]:=by rw[ek,ki hk]
 rw[eg]
 have hgk:=K.kx.gv _ (gM hk)
 obtain⟨b1,o1,e1,ss1,g1,G1,I1,k1,m1⟩:=hx.1 k hk
 subst e1
 have n0:(0:Int)≤(k:Int):=by omega
 have n1:(k:Int) < (x.vars.length:Int):=by omega
 have I0:=I1
 have HKZ:Hid (∀wx,Below w.heap.size w wx→(wx.cell? ⟨sb,2,nO⟩=sO (I Y (k:Int))∧wx.cell? ⟨sb,11,nO⟩=sO (U (sO ⟨b1,o1,nO⟩) x.vars.length vc))∧(wx.cell? ⟨b1,o1+k * 7,nO⟩=sO (Bb x.vars[k].n)∧wx.cell? ⟨b1,o1+k * 7+1,nO⟩=sO (Bb x.vars[k].sp.n)∧wx.cell? ⟨b1,o1+k * 7+2,nO⟩=sO (I Y x.vars[k].sp.lo)∧wx.cell? ⟨b1,o1+k * 7+3,nO⟩=sO (I Y x.vars[k].sp.hi)∧wx.cell? ⟨b1,o1+k * 7+4,nO⟩=sO (Bb x.vars[k].t)∧wx.cell? ⟨b1,o1+k * 7+5,nO⟩=sO (Bb x.vars[k].f)∧wx.cell? ⟨b1,o1+k * 7+6,nO⟩=sO (U ss1 x.vars[k].s.length g1))):=λwx hb=>⟨⟨by rw[←ek];exact(hS.call hb).1 2 _ rfl,(hS.call hb).1 11 _ rfl⟩,((G1.call hB0).call hb).1⟩
 have HSS:=aa hS
 clear hS hc0 hx hx0 eg ek hA hgk G1
 go_enter Tryz.func154,Tryz.ntmps154
 go_upto_region 1 with fail
 go_cut [3] (λt3 wc=>∃ab,t3=Pp (sO ⟨ab,0,nO⟩)∧w.heap.size≤ab∧Cells wc ab [Bb x.vars[k].n,Bb x.vars[k].sp.n,I Y x.vars[k].sp.lo,I Y x.vars[k].sp.hi,Bb x.vars[k].t,Bb x.vars[k].f,U ss1 x.vars[k].s.length g1]∧Below w.heap.size w wc)
 case first=>
  rename_i J1 K1 hJ1 hK1
  have B1:Below w.heap.size w w.drew:=(bR _ _).drew
  refine wp_region_held_drew (S:=(λwx=>(wx.cell? ⟨sb,2,nO⟩=sO (I Y (k:Int))∧wx.cell? ⟨sb,11,nO⟩=sO (U (sO ⟨b1,o1,nO⟩) x.vars.length vc))∧(wx.cell? ⟨b1,o1+k * 7,nO⟩=sO (Bb x.vars[k].n)∧wx.cell? ⟨b1,o1+k * 7+1,nO⟩=sO (Bb x.vars[k].sp.n)∧wx.cell? ⟨b1,o1+k * 7+2,nO⟩=sO (I Y x.vars[k].sp.lo)∧wx.cell? ⟨b1,o1+k * 7+3,nO⟩=sO (I Y x.vars[k].sp.hi)∧wx.cell? ⟨b1,o1+k * 7+4,nO⟩=sO (Bb x.vars[k].t)∧wx.cell? ⟨b1,o1+k * 7+5,nO⟩=sO (Bb x.vars[k].f)∧wx.cell? ⟨b1,o1+k * 7+6,nO⟩=sO (U ss1 x.vars[k].s.length g1)))) (by kernel_rfl) (HKZ.out _ B1) (λhHeld=> ?_)
  generalize w.drew=w1 at *
  refine vH 0 ?_ ?_
  refine vH 1 ?_ ?_
  refine vH 2 ?_ ?_
  refine vH 3 ?_ ?_
  refine vH 4 ?_ ?_
  refine vH 5 ?_ ?_
  refine vH 6 ?_ ?_
  refine vH 7 ?_ ?_
  refine vH 8 ?_ ?_
  refine vH 9 ?_ ?_
  refine vH 10 ?_ ?_
  refine vH 11 ?_ ?_
  refine wpAnyH_ready (rs:=[12]) (by kernel_rfl) (by simp) ?_
  refine AllReadyH.cons rfl (λK hK=> ?_) AllReadyH.nil
  go_simp
  have hb2:Below w1.heap.size w1 (w1.alloc (Cc #[Bb false,Bb false,I Y 0,I Y 0,Bb false,Bb false,U nO 0 0] 91)):=by go_grown
  have B2:=B1.trans (hb2.mono (B1.size))
  have A2:Cells (w1.alloc (Cc #[Bb false,Bb false,I Y 0,I Y 0,Bb false,Bb false,U nO 0 0] 91)) w1.heap.size [Bb false,Bb false,I Y 0,I Y 0,Bb false,Bb false,U nO 0 0]:=Cells.new w1 91 [Bb false,Bb false,I Y 0,I Y 0,Bb false,Bb false,U nO 0 0]
  have zab:=B1.size
  clear B1
  refine hK.out _ _ (HKZ.out _ B2) (λhHeld2=> ?_)
  clear hK K hb2
  refine sm ?_
  generalize w1.alloc (Cc #[Bb false,Bb false,I Y 0,I Y 0,Bb false,Bb false,U nO 0 0] 91)=w2 at *
  generalize w1.heap.size=ab at *
  refine wpAnyH_ready (rs:=[13]) (by kernel_rfl) (by simp) ?_
  refine AllReadyH.cons rfl (λK hK=> ?_) AllReadyH.nil
  have r0:=A2.1 0 _ rfl
  have r1:=A2.1 1 _ rfl
  have r2:=A2.1 2 _ rfl
  have r3:=A2.1 3 _ rfl
  have r4:=A2.1 4 _ rfl
  have r5:=A2.1 5 _ rfl
  have r6:=A2.1 6 _ rfl
  have f0:=A2.2.2 0
  have f1:=A2.2.2 1
  have f2:=A2.2.2 2
  have f3:=A2.2.2 3
  have f4:=A2.2.2 4
  have f5:=A2.2.2 5
  have f6:=A2.2.2 6
  go_simp
  have A3:Cells (((((((w2.setCell ⟨ab,0,nO⟩ (Bb x.vars[k].n)).setCell ⟨ab,1,nO⟩ (Bb x.vars[k].sp.n)).setCell ⟨ab,2,nO⟩ (I Y x.vars[k].sp.lo)).setCell ⟨ab,3,nO⟩ (I Y x.vars[k].sp.hi)).setCell ⟨ab,4,nO⟩ (Bb x.vars[k].t)).setCell ⟨ab,5,nO⟩ (Bb x.vars[k].f)).setCell ⟨ab,6,nO⟩ (U ss1 x.vars[k].s.length g1)) ab [Bb x.vars[k].n,Bb x.vars[k].sp.n,I Y x.vars[k].sp.lo,I Y x.vars[k].sp.hi,Bb x.vars[k].t,Bb x.vars[k].f,U ss1 x.vars[k].s.length g1]:=(((((((A2.put 0 (by simp) _).put 1 (by simp) _).put 2 (by simp) _).put 3 (by simp) _).put 4 (by simp) _).put 5 (by simp) _).put 6 (by simp) _)
  have B3:Below w.heap.size w (((((((w2.setCell ⟨ab,0,nO⟩ (Bb x.vars[k].n)).setCell ⟨ab,1,nO⟩ (Bb x.vars[k].sp.n)).setCell ⟨ab,2,nO⟩ (I Y x.vars[k].sp.lo)).setCell ⟨ab,3,nO⟩ (I Y x.vars[k].sp.hi)).setCell ⟨ab,4,nO⟩ (Bb x.vars[k].t)).setCell ⟨ab,5,nO⟩ (Bb x.vars[k].f)).setCell ⟨ab,6,nO⟩ (U ss1 x.vars[k].s.length g1)):=(((((((B2.setCell (by simp only;omega) _).setCell (by simp only;omega) _).setCell (by simp only;omega) _).setCell (by simp only;omega) _).setCell (by simp only;omega) _).setCell (by simp only;omega) _).setCell (by simp only;omega) _)
  refine hK.out _ _ (HKZ.out _ B3) (λhHeld3=> ?_)
  clear hK K r0 f0 r1 f1 r2 f2 r3 f3 r4 f4 r5 f5 r6 f6 A2 B2
  refine sm ?_
  generalize (((((((w2.setCell ⟨ab,0,nO⟩ (Bb x.vars[k].n)).setCell ⟨ab,1,nO⟩ (Bb x.vars[k].sp.n)).setCell ⟨ab,2,nO⟩ (I Y x.vars[k].sp.lo)).setCell ⟨ab,3,nO⟩ (I Y x.vars[k].sp.hi)).setCell ⟨ab,4,nO⟩ (Bb x.vars[k].t)).setCell ⟨ab,5,nO⟩ (Bb x.vars[k].f)).setCell ⟨ab,6,nO⟩ (U ss1 x.vars[k].s.length g1))=w3 at *
  refine wpAnyH_done (by kernel_rfl) ?_ _
  first|refine hK1 _ _ (Met.intro (hJ1 _ _ ?_))|refine Met.intro (hJ1 _ _ ?_)|refine hJ1 _ _ ?_
  (repeat apply Exists.intro)
  refine⟨?_,rfl⟩
  exact⟨ab,rfl,zab,A3,B3⟩
 obtain⟨ab,rfl,zab,A1,B1⟩:=hcut
 have S1:=HSS.out.call B1
 have M1:=ModS.of B1 HSS.out.2.1
 have zsb:=HSS.out.2.1
 have a0:=A1.1 0 _ rfl
 have a1:=A1.1 1 _ rfl
 have a4:=A1.1 4 _ rfl
 have a5:=A1.1 5 _ rfl
 have a6:=A1.1 6 _ rfl
 have s14:=S1.1 14 _ rfl
 have f14:=S1.2.2 14
 cases hn:x.vars[k].n with
 |true=>
  rw[hn] at a0
  go_wp2
  go_ret
  exact⟨⟨ss1,g1,rfl,I0,k1,m1⟩,by rw[show bK x.vars[k]=true by simp[bK,hn]];exact S1.put 14 (by simp[aK]) _,M1.put 14 _⟩
 |false=>
  rw[hn] at a0
  cases hp:x.vars[k].sp.n with
  |false=>
   rw[hp] at a1
   go_wp2
   go_ret
   exact⟨⟨ss1,g1,rfl,I0,k1,m1⟩,by rw[show bK x.vars[k]=true by simp[bK,hn,hp]];exact S1.put 14 (by simp[aK]) _,M1.put 14 _⟩
  |true=>
   rw[hp] at a1
   cases ht:x.vars[k].t with
   |true=>
    rw[ht] at a4
    go_wp2
    go_ret
    exact⟨⟨ss1,g1,rfl,I0,k1,m1⟩,by rw[show bK x.vars[k]=true by simp[bK,hn,hp,ht]];exact S1.put 14 (by simp[aK]) _,M1.put 14 _⟩
   |false=>
    rw[ht] at a4
    cases hf:x.vars[k].f with
    |true=>
     rw[hf] at a5
     go_wp2
     go_ret
     exact⟨⟨ss1,g1,rfl,I0,k1,m1⟩,by rw[show bK x.vars[k]=true by simp[bK,hn,hp,ht,hf]];exact S1.put 14 (by simp[aK]) _,M1.put 14 _⟩
    |false=>
     rw[hf] at a5
     go_wp2
     go_ret
     exact⟨⟨ss1,g1,rfl,I0,k1,m1⟩,by rw[show bK x.vars[k]=false by simp[bK,hn,hp,ht,hf]];exact S1.put 14 (by simp[aK]) _,M1.put 14 _⟩
def iX (l:List Thg)(v:Val):Int:=if v.k=3 then(l.getD v.n.toNat ⟨0,[]⟩).site else 0
theorem uE {r:St}{g:Gs}{v:Val}(h:bH r.things.length v):cA g v.k v.n (iX r.things v)=bB r g v:=by
 unfold bB cA iX ez
 rcases h with⟨h,_⟩|⟨h,_⟩|⟨h,_⟩|⟨h,_⟩
 ·rw[if_pos h,if_pos h]
 ·rw[if_neg (by omega),if_pos h,if_neg (by omega),if_pos h]
 ·rw[if_neg (by omega),if_neg (by omega),if_pos h,if_neg (by omega),if_neg (by omega),if_pos h]
 ·simp[h]
theorem tP (r:St)(a:List Gs)(b:List Val)(k:Nat)(h:k < a.length)(h':k < b.length):bq r (a.drop k) (b.drop k)=(bB r a[k] b[k]&&bq r (a.drop (k+1)) (b.drop (k+1))):=by
 unfold bq
 rw[q1 h,q1 h']
 rfl
theorem AM {T:Nat}{v:Val}(h:bH T v):0≤v.k∧v.k≤3:=by unfold bH at h;omega
theorem ThgsAt.get {w:World}{s:Option Addr}{l:List Thg}(h:ThgsAt w s l)(k:Nat)(hk:k < l.length):∃b off,s=sO ⟨b,off,nO⟩∧b < w.heap.size∧∀k (h:k < l.length),w.cell? ⟨b,off+k * 2,nO⟩=sO (I Y l[k].site)∧∃f fc,w.cell? ⟨b,off+k * 2+1,nO⟩=sO (U f l[k].fs.length fc)∧ValsAt w f l[k].fs:=by
 rcases h with rfl|h
 ·exact absurd hk (by simp)
 ·exact h
theorem ThgsAt.call {w w':World}{s:Option Addr}{l:List Thg}(h:ThgsAt w s l)(hb:Below w.heap.size w w'):ThgsAt w' s l:=h.below hb (lR _)
theorem ValsAt.get {w:World}{s:Option Addr}{l:List Val}(h:ValsAt w s l)(k:Nat)(hk:k < l.length):∃b off,s=sO ⟨b,off,nO⟩∧b < w.heap.size∧w.cell? ⟨b,off+k * 2,nO⟩=sO (I Y l[k].k)∧w.cell? ⟨b,off+k * 2+1,nO⟩=sO (I Y l[k].n):=by
 rcases h with rfl|⟨b,off,e,hb,h⟩
 ·exact absurd hk (by simp)
 ·exact⟨b,off,e,hb,h k hk⟩
theorem ValsAt.call {w w':World}{s:Option Addr}{l:List Val}(h:ValsAt w s l)(hb:Below w.heap.size w w'):ValsAt w' s l:=h.below hb (lR _)
theorem yb (v:Val)(ts:Option Addr)(l:List Thg)(tc:Nat)(w:World)(ht:ThgsAt w ts l)(hv:bH l.length v):
  Calls pG 82 #[Ag #[I Y v.k,I Y v.n],U ts l.length tc] w λe w'=>e=Rt (I Y (iX l v))∧Below w.heap.size w w':=by
 have hb0:Below w.heap.size w (w.alloc (Cc #[I Y v.k,I Y v.n] 82)):=by go_grown
 by_cases h3:v.k=3
 ·have hd:(v.k !=3)=false:=by rw[h3];rfl
  have hn:0≤v.n∧v.n < l.length:=by unfold bH at hv;omega
  obtain⟨q,hq⟩:=j5 hn.1
  have hql:q < l.length:=by omega
  obtain⟨b,off,rfl,zb,hc⟩:=ht.get q hql
  have hcq:=(hc q hql).1
  have es:iX l v=l[q].site:=by unfold iX;rw[if_pos h3,hq];simp[List.getD,q0 hql]
  rw[es,hq]
  rw[hq] at hb0
  have n0:(0:Int)≤(q:Int):=by omega
  have n1:(q:Int) < (l.length:Int):=by omega
  generalize v.k=vk at *
  clear hc ht hv hn es hq
  go_enter Tryz.func82,Tryz.ntmps82
  go_wp2
  go_ret
  exact⟨rfl,by go_grown⟩
 ·have hd:(v.k !=3)=true:=by simpa using h3
  have es:iX l v=0:=by unfold iX;rw[if_neg h3]
  rw[es]
  clear es h3 hv
  go_enter Tryz.func82,Tryz.ntmps82
  go_wp2
  go_ret
  exact⟨rfl,by go_grown⟩
theorem tM (V F:Int)(s:Option Addr)(c:List Ins)(cap:Nat)(r:St)(L:List Gs)(gs:Option Addr)(gc:Nat)(vl:List Val)(vs:Option Addr)(vc:Nat)(ts:Option Addr)(tc:Nat)(w:World)(hcd:CodeAt w s c)(hG:GsAt w gs L)(hV:ValsAt w vs vl)(hT:ThgsAt w ts r.things)(h0:ag V F c=0)(hR:∀g∈L,aw c g=0)(hO:∀v∈vl,bH r.things.length v)(hl:L.length=vl.length)(hm:vl.length≤1000):
  Calls pG 44 #[pv V F s c cap,U gs L.length gc,U vs vl.length vc,U ts r.things.length tc] w λe w'=>e=Rt (Bb (bq r L vl))∧Below w.heap.size w w':=by
 have HR:=aa hR
 have HO:=aa hO
 have HLE:=aa hl
 obtain⟨res,HRES,hres⟩:∃q,Hid (q=bq r L vl)∧bq r L vl=q:=⟨_,rfl,rfl⟩
 rw[hres]
 clear hres hR hO hl
 have P0:=PrAt.new w V F s c cap
 have B0:Below w.heap.size w (w.alloc (Cc #[I Y V,I Y F,U s c.length cap] 24)):=by go_grown
 go_enter Tryz.func44,Tryz.ntmps44
 go_upto_region 2 with fail
 generalize w.alloc (Cc #[I Y V,I Y F,U s c.length cap] 24)=w1 at *
 go_wp2
 go_loopw [15] (λi wr=>∃k:Nat,k≤vl.length∧i=I Y k∧Below w1.heap.size w1 wr∧Hid (res=bq r (L.drop k) (vl.drop k))) (λi _=>vl.length - (intOf i).toNat)
 case atStart=>exact⟨0,Nat.zero_le _,rfl,bR _ _,HRES⟩
 case round=>
  obtain⟨k,hk,rfl,hbr,HK⟩:=hrel
  have LR:=B0.trans (hbr.mono B0.size)
  by_cases hlt:k < vl.length
  ·have n0:(0:Int)≤(k:Int):=by omega
   have n1:(k:Int) < (vl.length:Int):=by omega
   have hlt':k < L.length:=by have:=HLE.out;omega
   have n2:(k:Int) < (L.length:Int):=by omega
   obtain⟨b1,o1,e1,ss1,g1,G1,I1,k1,m1⟩:=(hG.below LR (lR _)) k hlt'
   obtain⟨b2,o2,e2,zb2,V1,V2⟩:=(hV.below LR (lR _)).get k hlt
   subst e1 e2
   have hRx:=HR.out _ (gM hlt')
   have hOk:=HO.out _ (gM hlt)
   have HS:=aa (tP r L vl k hlt' hlt)
   have hb4:Below wr.heap.size wr (wr.alloc (Cc #[I Y vl[k].k,I Y vl[k].n] 82)):=by go_grown
   have Q4:(wr.alloc (Cc #[I Y vl[k].k,I Y vl[k].n] 82)).cell? ⟨wr.heap.size,0,nO⟩=sO (I Y vl[k].k)∧(wr.alloc (Cc #[I Y vl[k].k,I Y vl[k].n] 82)).cell? ⟨wr.heap.size,1,nO⟩=sO (I Y vl[k].n):=by simp[go_sem]
   have q4:wr.heap.size < (wr.alloc (Cc #[I Y vl[k].k,I Y vl[k].n] 82)).heap.size:=by simp
   have I4:=I1.call hb4
   have G4:=G1.call hb4
   have T4:=(hT.below LR (lR _)).call hb4
   have C4:=(hcd.below LR (lR _)).call hb4
   have hb34:=hbr.trans (hb4.mono hbr.size)
   go_upto_region 4 with fail
   generalize wr.alloc (Cc #[I Y vl[k].k,I Y vl[k].n] 82)=w4 at *
   generalize wr.heap.size=qb at *
   clear V1 V2 G1 I1
   have HKZ:Hid (∀wx,Below w4.heap.size w4 wx→(wx.cell? ⟨w.heap.size,0,nO⟩=sO (I Y V)∧wx.cell? ⟨w.heap.size,1,nO⟩=sO (I Y F)∧wx.cell? ⟨w.heap.size,2,nO⟩=sO (U s c.length cap))∧(wx.cell? ⟨b1,o1+k * 7,nO⟩=sO (Bb L[k].n)∧wx.cell? ⟨b1,o1+k * 7+1,nO⟩=sO (Bb L[k].sp.n)∧wx.cell? ⟨b1,o1+k * 7+2,nO⟩=sO (I Y L[k].sp.lo)∧wx.cell? ⟨b1,o1+k * 7+3,nO⟩=sO (I Y L[k].sp.hi)∧wx.cell? ⟨b1,o1+k * 7+4,nO⟩=sO (Bb L[k].t)∧wx.cell? ⟨b1,o1+k * 7+5,nO⟩=sO (Bb L[k].f)∧wx.cell? ⟨b1,o1+k * 7+6,nO⟩=sO (U ss1 L[k].s.length g1))∧(wx.cell? ⟨qb,0,nO⟩=sO (I Y vl[k].k)∧wx.cell? ⟨qb,1,nO⟩=sO (I Y vl[k].n))):=λwx hx=>⟨((P0.call hb34).call hx).1,(G4.call hx).1,by rw[hx.cell (by simp only;exact q4)];exact Q4.1,by rw[hx.cell (by simp only;exact q4)];exact Q4.2⟩
   have HD:Below w4.heap.size w4 w4.drew:=(bR _ _).drew
   have eK:=uE (g:=L[k]) hOk
   have HHU:Hid (∀wx,Below w4.heap.size w4 wx→Calls pG 81 #[pv V F s c cap,gv L[k] ss1 g1,Ag #[I Y vl[k].k,I Y vl[k].n],I Y (iX r.things vl[k])] wx λe w'=>e=Rt (Tu #[Bb (bB r L[k] vl[k]),I Y 0])∧Below wx.heap.size wx w'):=λwx hx=>by
    have e0:gA (aF V F c [L[k]]) vl[k].k=0:=by
     have e00:aF V F c [L[k]]=0:=by unfold aF;rw[if_pos h0];unfold bX;rw[if_pos hRx];rfl
     rw[e00]
     have:=AM hOk
     unfold gA
     rw[if_pos rfl,if_neg (by omega)]
    have:=Gi V F s c cap L[k] ss1 g1 vl[k].k vl[k].n (iX r.things vl[k]) wx (C4.call hx) (I4.call hx) k1 m1
    rw[e0,if_pos rfl,eK] at this
    exact this
   clear eK
   refine an (S:=(λwx=>(wx.cell? ⟨w.heap.size,0,nO⟩=sO (I Y V)∧wx.cell? ⟨w.heap.size,1,nO⟩=sO (I Y F)∧wx.cell? ⟨w.heap.size,2,nO⟩=sO (U s c.length cap))∧(wx.cell? ⟨b1,o1+k * 7,nO⟩=sO (Bb L[k].n)∧wx.cell? ⟨b1,o1+k * 7+1,nO⟩=sO (Bb L[k].sp.n)∧wx.cell? ⟨b1,o1+k * 7+2,nO⟩=sO (I Y L[k].sp.lo)∧wx.cell? ⟨b1,o1+k * 7+3,nO⟩=sO (I Y L[k].sp.hi)∧wx.cell? ⟨b1,o1+k * 7+4,nO⟩=sO (Bb L[k].t)∧wx.cell? ⟨b1,o1+k * 7+5,nO⟩=sO (Bb L[k].f)∧wx.cell? ⟨b1,o1+k * 7+6,nO⟩=sO (U ss1 L[k].s.length g1))∧(wx.cell? ⟨qb,0,nO⟩=sO (I Y vl[k].k)∧wx.cell? ⟨qb,1,nO⟩=sO (I Y vl[k].n)))) [] (by kernel_rfl) (HKZ.out _ HD) (λhHeld=> ?_)
   refine vZ 0 ?_ ?_
   refine vZ 1 ?_ ?_
   refine vZ 2 ?_ ?_
   refine vZ 3 ?_ ?_
   refine vZ 4 ?_ ?_
   refine vZ 5 ?_ ?_
   refine vZ 6 ?_ ?_
   refine vZ 7 ?_ ?_
   refine ai (i:=8) rfl (by kernel_rfl) (λK hK=> ?_)
   go_simp
   go_at_call 82
   refine(yb vl[k] ts r.things tc _ (T4.call HD) hOk).mono ?_
   rintro e w5 ⟨rfl,hb5⟩
   have HB5:Below w4.heap.size w4 w5:=HD.trans (hb5.mono HD.size)
   go_wp2_with fail
   refine hK.out _ _ (HKZ.out _ HB5) (λhHeld=> ?_)
   clear hK K
   refine sm ?_
   refine ai (i:=9) rfl (by kernel_rfl) (λK hK=> ?_)
   go_simp
   go_at_call 81
   refine(HHU.out _ HB5).mono ?_
   rintro e w6 ⟨rfl,hb6⟩
   have HB6:Below w4.heap.size w4 w6:=HB5.trans (hb6.mono HB5.size)
   go_wp2_with fail
   refine hK.out _ _ (HKZ.out _ HB6) (λhHeld=> ?_)
   clear hK K
   refine sm ?_
   refine vZ 10 ?_ ?_
   refine vZ 11 ?_ ?_
   refine vZ 12 ?_ ?_
   refine vZ 13 ?_ ?_
   refine vZ 14 ?_ ?_
   refine aj (by kernel_rfl) ?_ _
   have hb35:=hb34.trans (HB6.mono hb34.size)
   rcases (show bB r L[k] vl[k]=false∨bB r L[k] vl[k]=true by cases bB r L[k] vl[k]<;>simp) with hs|hs<;>have HSG:=aa hs<;>rw[hs]<;>clear hs
   ·go_wp2
    go_ret
    refine⟨?_,B0.trans (hb35.mono B0.size)⟩
    rw[HK.out,HS.out,HSG.out]
    rfl
   ·go_wp2
    go_roundw
    case rel=>exact⟨k+1,by omega,by go_num,hb35,by show _=_;rw[HK.out,HS.out,HSG.out];rfl⟩
    case measure=>simp[intOf];omega
  ·have n1:¬(k:Int) < (vl.length:Int):=by omega
   go_wp2
   go_ret
   refine⟨?_,LR⟩
   rw[HK.out,List.drop_eq_nil_of_le (show vl.length≤k by omega)]
   simp[bq]
end
end Go.Proofs.YtmapdpcfanecdabGreatDoor
