import Derived.Test.YtmapdpcfanecdabGreatDoorM31
import Derived.Test.YtmapdpcfanecdabGreatDoorM32
open Go.Ending renaming returned→Rt
open Go.IntKind renaming i64→Y
open Go.Proofs.Tryz renaming prog→pG
open Go.RowKit.Below renaming refl→bR
open Go.Value renaming agg→Ag,bool→Bb,int→I,slice→U,tuple→Tu
open Go.World renaming size_alloc→zA
open Nat renaming le_refl→lR,zero_add→j0
open Option renaming none→nO,some→sO
set_option linter.unusedSimpArgs false
set_option linter.unusedVariables false
set_option maxHeartbeats 4000000
set_option maxRecDepth 10000
namespace Go.Proofs.YtmapdpcfanecdabGreatDoor
section
open Go.RowKit
attribute [local go_sem ↓] Go.wp_at_zero Go.wp_at_succ
theorem kI {V F:Int}{c:List Ins}{x:Pic}(h:aK V F c x=0)(hn:x.none=false):(x.vars.length:Int)=V∧x.flds.length=c.length∧(∀r∈x.flds,(r.length:Int)=F)∧(∀g∈x.vars,aC c g=0)∧∀r∈x.flds,∀g∈r,aC c g=0:=by
 unfold aK at h
 split at h
 ·cases h
 ·rename_i h1
  split at h
  ·contradiction
  ·rename_i h2
   have h2':bW c (bJ x)=0:=by simpa using h2
   have hall:=oH h2'
   have hf:bG V F c x=true:=by simpa using h1
   unfold bG at hf
   rw[hn] at hf
   simp only[Bool.false_eq_true,if_false,Bool.and_eq_true,decide_eq_true_eq,Bool.not_eq_true',List.any_eq_false] at hf
   refine⟨hf.1,hf.2.1,λr hr=>by have:=hf.2.2 r hr;simpa using this,λg hg=>hall g ?_,λr hr g hg=>hall g ?_⟩
   ·unfold bJ;exact List.mem_append_left _ hg
   ·unfold bJ;exact List.mem_append_right _ (List.mem_flatten.2 ⟨r,hr,hg⟩)
theorem lF {V F:Int}{c:List Ins}{g h:Gs}(h0:ai V F c=0)(hg:aC c g=0)(hh:aC c h=0):aX V F c [g,h]=0:=by
 unfold aX
 rw[if_pos h0]
 unfold bW
 rw[if_pos hg]
 unfold bW
 rw[if_pos hh]
 rfl
end
section
open Go.RowKit
theorem GT (V F:Int)(s:Option Addr)(c:List Ins)(cap:Nat)(g:Gs)(ss:Option Addr)(gc:Nat)(h:Gs)(st:Option Addr)(hc:Nat)(kind:Int)(w:World)
  (hcd:CodeAt w s c)(hs:IntsAt w ss g.s)(h1:g.s.length≤gc)(h2:gc≤maxLen)(ht:IntsAt w st h.s)(h3:h.s.length≤hc)(h4:hc≤maxLen)(hck:aX V F c [g,h]≠0):
  Calls pG 164 #[pv V F s c cap,I Y kind,gv g ss gc,gv h st hc] w λe w'=>e=Rt (Tu #[gv dK nO 0,Bb false,I Y (aX V F c [g,h])])∧Below w.heap.size w w':=by
 obtain⟨P0,G0,H0,R0,F0⟩:=eC w V F s c cap g ss gc h st hc
 have B0:=cU w V F s c cap g ss gc h st hc
 have C0:CodeAt (bH w V F s c cap g ss gc h st hc) s c:=hcd.below B0 (lR _)
 have I0:IntsAt (bH w V F s c cap g ss gc h st hc) ss g.s:=hs.below B0 (lR _)
 have J0:IntsAt (bH w V F s c cap g ss gc h st hc) st h.s:=ht.below B0 (lR _)
 have L0:=GsAt.new2 (bH w V F s c cap g ss gc h st hc) g ss gc h st hc I0 h1 h2 J0 h3 h4
 simp only[zA] at L0
 have HC:=aa (bZ V F s c cap (sO ⟨w.heap.size+1+1+1+1,0,nO⟩) [g,h] 2 _ (C0.alloc _) L0 (by simp))
 have hne:(aX V F c [g,h]!=0)=true:=by simpa using hck
 generalize aX V F c [g,h]=ce at HC hne ⊢
 clear hck
 go_enter Tryz.func164,Tryz.ntmps164
 go_wp2_with (go_at_call 142;fail)
 refine HC.out.mono ?_
 rintro e w1 ⟨rfl,hb1⟩
 have G1:=(G0.alloc _).call hb1
 have H1:=(H0.alloc _).call hb1
 have R1:=(R0.alloc _).call hb1
 have I1:=(I0.alloc _).call hb1
 have J1:=(J0.alloc _).call hb1
 have F1:Fr7 w1 (w.heap.size+1+1+1):=(F0.alloc _).call hb1
 have B1:Below w.heap.size w w1:=(B0.alloc B0.size _).trans (hb1.mono (by simp;omega))
 clear hb1 G0 H0 R0 I0 J0 F0 B0 C0 P0 L0 hcd hs ht HC
 obtain⟨⟨g0,g1,g2,g3,g4,g5,g6⟩,gz⟩:=id G1
 obtain⟨⟨k0,k1,k2,k3,k4,k5,k6⟩,kz⟩:=id H1
 simp only[j0] at g0 g1 g2 g3 g4 g5 g6 k0 k1 k2 k3 k4 k5 k6
 obtain⟨⟨r0,r1,r2,r3,r4,r5,r6⟩,rz⟩:=id R1
 simp only[j0,dK] at r0 r1 r2 r3 r4 r5 r6
 have fz:=F1.1
 go_wp2
 refine bodyPost_ret (v:=Tu #[gv dK nO 0,Bb false,I Y ce]) (by simp[results,Tryz.results164,go_sem,r0,r1,r2,r3,r4,r5,r6,dK]) rfl ⟨rfl,?_⟩
 exact dM B1 (by omega)

theorem Fw (V F:Int)(s:Option Addr)(c:List Ins)(cap:Nat)(g:Gs)(ss:Option Addr)(gc:Nat)(h:Gs)(st:Option Addr)(hc:Nat)(kind:Int)(w:World)
  (hcd:CodeAt w s c)(hs:IntsAt w ss g.s)(h1:g.s.length≤gc)(h2:gc≤maxLen)(ht:IntsAt w st h.s)(h3:h.s.length≤hc)(h4:hc≤maxLen)(hck:aX V F c [g,h]=0)(hk4:(kind==4)=false)(hk5:(kind==5)=false)(hk6:(kind==6)=false)(hk7:(kind==7)=false)(hk8:(kind==8)=false)(hk9:(kind==9)=false)(hk10:(kind==10)=false):
  Calls pG 164 #[pv V F s c cap,I Y kind,gv g ss gc,gv h st hc] w λe w'=>e=Rt (Tu #[gv dK nO 0,Bb false,I Y 6])∧Below w.heap.size w w':=by
 obtain⟨P0,G0,H0,R0,F0⟩:=eC w V F s c cap g ss gc h st hc
 have B0:=cU w V F s c cap g ss gc h st hc
 have C0:CodeAt (bH w V F s c cap g ss gc h st hc) s c:=hcd.below B0 (lR _)
 have I0:IntsAt (bH w V F s c cap g ss gc h st hc) ss g.s:=hs.below B0 (lR _)
 have J0:IntsAt (bH w V F s c cap g ss gc h st hc) st h.s:=ht.below B0 (lR _)
 have L0:=GsAt.new2 (bH w V F s c cap g ss gc h st hc) g ss gc h st hc I0 h1 h2 J0 h3 h4
 simp only[zA] at L0
 have HC:=aa (bZ V F s c cap (sO ⟨w.heap.size+1+1+1+1,0,nO⟩) [g,h] 2 _ (C0.alloc _) L0 (by simp))
 rw[hck] at HC
 go_enter Tryz.func164,Tryz.ntmps164
 go_wp2_with (go_at_call 142;fail)
 refine HC.out.mono ?_
 rintro e w1 ⟨rfl,hb1⟩
 have G1:=(G0.alloc _).call hb1
 have H1:=(H0.alloc _).call hb1
 have R1:=(R0.alloc _).call hb1
 have I1:=(I0.alloc _).call hb1
 have J1:=(J0.alloc _).call hb1
 have F1:Fr7 w1 (w.heap.size+1+1+1):=(F0.alloc _).call hb1
 have B1:Below w.heap.size w w1:=(B0.alloc B0.size _).trans (hb1.mono (by simp;omega))
 clear hb1 G0 H0 R0 I0 J0 F0 B0 C0 P0 L0 hcd hs ht HC
 obtain⟨⟨g0,g1,g2,g3,g4,g5,g6⟩,gz⟩:=id G1
 obtain⟨⟨k0,k1,k2,k3,k4,k5,k6⟩,kz⟩:=id H1
 simp only[j0] at g0 g1 g2 g3 g4 g5 g6 k0 k1 k2 k3 k4 k5 k6
 obtain⟨⟨r0,r1,r2,r3,r4,r5,r6⟩,rz⟩:=id R1
 simp only[j0,dK] at r0 r1 r2 r3 r4 r5 r6
 have fz:=F1.1
 go_wp2
 refine bodyPost_ret (v:=Tu #[gv dK nO 0,Bb false,I Y 6]) (by simp[results,Tryz.results164,go_sem,r0,r1,r2,r3,r4,r5,r6,dK]) rfl ⟨rfl,?_⟩
 exact dM B1 (by omega)

theorem FZ (V F:Int)(s:Option Addr)(c:List Ins)(cap:Nat)(g:Gs)(ss:Option Addr)(gc:Nat)(h:Gs)(st:Option Addr)(hc:Nat)(w:World)
  (hcd:CodeAt w s c)(hs:IntsAt w ss g.s)(h1:g.s.length≤gc)(h2:gc≤maxLen)(ht:IntsAt w st h.s)(h3:h.s.length≤hc)(h4:hc≤maxLen)(hck:aX V F c [g,h]=0)(y n:Bool)(hS:∀wx,Below w.heap.size w wx→Calls pG 206 #[gv g ss gc,gv h st hc] wx λe w'=>e=Rt (Tu #[Bb y,Bb n])∧Below wx.heap.size wx w'):
  Calls pG 164 #[pv V F s c cap,I Y 9,gv g ss gc,gv h st hc] w λe w'=>e=Rt (Tu #[gv ⟨false,⟨true,0,0⟩,y,n,[]⟩ nO 0,Bb false,I Y 0])∧Below w.heap.size w w':=by
 obtain⟨P0,G0,H0,R0,F0⟩:=eC w V F s c cap g ss gc h st hc
 have B0:=cU w V F s c cap g ss gc h st hc
 have C0:CodeAt (bH w V F s c cap g ss gc h st hc) s c:=hcd.below B0 (lR _)
 have I0:IntsAt (bH w V F s c cap g ss gc h st hc) ss g.s:=hs.below B0 (lR _)
 have J0:IntsAt (bH w V F s c cap g ss gc h st hc) st h.s:=ht.below B0 (lR _)
 have L0:=GsAt.new2 (bH w V F s c cap g ss gc h st hc) g ss gc h st hc I0 h1 h2 J0 h3 h4
 simp only[zA] at L0
 have HC:=aa (bZ V F s c cap (sO ⟨w.heap.size+1+1+1+1,0,nO⟩) [g,h] 2 _ (C0.alloc _) L0 (by simp))
 rw[hck] at HC
 have HS:=aa hS
 clear hS
 go_enter Tryz.func164,Tryz.ntmps164
 go_wp2_with (go_at_call 142;fail)
 refine HC.out.mono ?_
 rintro e w1 ⟨rfl,hb1⟩
 have G1:=(G0.alloc _).call hb1
 have H1:=(H0.alloc _).call hb1
 have R1:=(R0.alloc _).call hb1
 have I1:=(I0.alloc _).call hb1
 have J1:=(J0.alloc _).call hb1
 have F1:Fr7 w1 (w.heap.size+1+1+1):=(F0.alloc _).call hb1
 have B1:Below w.heap.size w w1:=(B0.alloc B0.size _).trans (hb1.mono (by simp;omega))
 clear hb1 G0 H0 R0 I0 J0 F0 B0 C0 P0 L0 hcd hs ht HC
 obtain⟨⟨g0,g1,g2,g3,g4,g5,g6⟩,gz⟩:=id G1
 obtain⟨⟨k0,k1,k2,k3,k4,k5,k6⟩,kz⟩:=id H1
 simp only[j0] at g0 g1 g2 g3 g4 g5 g6 k0 k1 k2 k3 k4 k5 k6
 go_wp2_with (go_at_call 206;fail)
 refine(HS.out _ B1).mono ?_
 rintro e w2 ⟨rfl,hb2⟩
 have R2:=R1.call hb2
 have F2:=F1.call hb2
 have B2:=B1.trans (hb2.mono B1.size)
 clear hb2
 go_wp2_with (go_at_call 204;fail)
 refine(kk _ _ _).mono ?_
 rintro e w3 ⟨rfl,hb3⟩
 have R3:=R2.call hb3
 have F3:=F2.call hb3
 have B3:=B2.trans (hb3.mono B2.size)
 clear hb3
 obtain⟨⟨r0,r1,r2,r3,r4,r5,r6⟩,rz⟩:=id R3
 simp only[j0,dK] at r0 r1 r2 r3 r4 r5 r6
 have fz:=F3.1
 go_wp2
 refine bodyPost_ret (v:=Tu #[gv ⟨false,⟨true,0,0⟩,y,n,[]⟩ nO 0,Bb false,I Y 0]) (by simp[results,Tryz.results164,go_sem,r0,r1,r2,r3,r4,r5,r6]) rfl ⟨rfl,?_⟩
 exact dM B3 (by omega)

theorem IS (V F:Int)(s:Option Addr)(c:List Ins)(cap:Nat)(g:Gs)(ss:Option Addr)(gc:Nat)(h:Gs)(st:Option Addr)(hc:Nat)(w:World)
  (hcd:CodeAt w s c)(hs:IntsAt w ss g.s)(h1:g.s.length≤gc)(h2:gc≤maxLen)(ht:IntsAt w st h.s)(h3:h.s.length≤hc)(h4:hc≤maxLen)(hck:aX V F c [g,h]=0)(hsp:dd g.sp=0):
  Calls pG 164 #[pv V F s c cap,I Y 10,gv g ss gc,gv h st hc] w λe w'=>e=Rt (Tu #[gv ⟨false,⟨true,0,0⟩,cT g,ca g,[]⟩ nO 0,Bb false,I Y 0])∧Below w.heap.size w w':=by
 obtain⟨P0,G0,H0,R0,F0⟩:=eC w V F s c cap g ss gc h st hc
 have B0:=cU w V F s c cap g ss gc h st hc
 have C0:CodeAt (bH w V F s c cap g ss gc h st hc) s c:=hcd.below B0 (lR _)
 have I0:IntsAt (bH w V F s c cap g ss gc h st hc) ss g.s:=hs.below B0 (lR _)
 have J0:IntsAt (bH w V F s c cap g ss gc h st hc) st h.s:=ht.below B0 (lR _)
 have L0:=GsAt.new2 (bH w V F s c cap g ss gc h st hc) g ss gc h st hc I0 h1 h2 J0 h3 h4
 simp only[zA] at L0
 have HC:=aa (bZ V F s c cap (sO ⟨w.heap.size+1+1+1+1,0,nO⟩) [g,h] 2 _ (C0.alloc _) L0 (by simp))
 rw[hck] at HC
 have HS:=aa (λw=>rU g ss gc w hsp)
 generalize ca g=y at HS ⊢
 generalize cT g=n at HS ⊢
 clear hsp
 go_enter Tryz.func164,Tryz.ntmps164
 go_wp2_with (go_at_call 142;fail)
 refine HC.out.mono ?_
 rintro e w1 ⟨rfl,hb1⟩
 have G1:=(G0.alloc _).call hb1
 have H1:=(H0.alloc _).call hb1
 have R1:=(R0.alloc _).call hb1
 have I1:=(I0.alloc _).call hb1
 have J1:=(J0.alloc _).call hb1
 have F1:Fr7 w1 (w.heap.size+1+1+1):=(F0.alloc _).call hb1
 have B1:Below w.heap.size w w1:=(B0.alloc B0.size _).trans (hb1.mono (by simp;omega))
 clear hb1 G0 H0 R0 I0 J0 F0 B0 C0 P0 L0 hcd hs ht HC
 obtain⟨⟨g0,g1,g2,g3,g4,g5,g6⟩,gz⟩:=id G1
 obtain⟨⟨k0,k1,k2,k3,k4,k5,k6⟩,kz⟩:=id H1
 simp only[j0] at g0 g1 g2 g3 g4 g5 g6 k0 k1 k2 k3 k4 k5 k6
 go_wp2_with (go_at_call 198;fail)
 refine(HS.out _).mono ?_
 rintro e w2 ⟨rfl,hb2⟩
 have R2:=R1.call hb2
 have F2:=F1.call hb2
 have B2:=B1.trans (hb2.mono B1.size)
 clear hb2
 go_wp2_with (go_at_call 204;fail)
 refine(kk _ _ _).mono ?_
 rintro e w3 ⟨rfl,hb3⟩
 have R3:=R2.call hb3
 have F3:=F2.call hb3
 have B3:=B2.trans (hb3.mono B2.size)
 clear hb3
 obtain⟨⟨r0,r1,r2,r3,r4,r5,r6⟩,rz⟩:=id R3
 simp only[j0,dK] at r0 r1 r2 r3 r4 r5 r6
 have fz:=F3.1
 go_wp2
 refine bodyPost_ret (v:=Tu #[gv ⟨false,⟨true,0,0⟩,n,y,[]⟩ nO 0,Bb false,I Y 0]) (by simp[results,Tryz.results164,go_sem,r0,r1,r2,r3,r4,r5,r6]) rfl ⟨rfl,?_⟩
 exact dM B3 (by omega)
theorem Cs (ss:Option Addr)(cap:Nat)(l:List Int)(w:World)(hl:l.length≤1000000)(hs:IntsAt w ss l):
  Calls pG 179 #[U ss l.length cap] w λe w'=>∃v,e=Rt v∧w'.ownsRow w.heap.size 3 1 v l.length (l.map (.int .i64))∧Below w.heap.size w w':=by
 cases ss with
 |none=>
  have h0:l=[]:=by
   rcases hs with h|⟨_,_,h,_⟩
   ·exact h
   ·cases h
  subst h0
  refine(Tryz.slices_Clone_int_nil _ _ _).mono ?_
  rintro e w' ⟨rfl,rfl⟩
  exact⟨_,rfl,⟨rfl,.inl ⟨rfl,rfl⟩⟩,bR _ _⟩
 |some a=>
  by_cases h0:l=[]
  ·subst h0
   refine(Tryz.slices_Clone_int_zero a cap w).mono ?_
   rintro e w' ⟨v,rfl,ho,-,hb⟩
   exact⟨_,rfl,ho,hb⟩
  ·obtain⟨b,off,e,hb,hc⟩:=hs.get 0 (List.length_pos_iff.2 h0)
   cases e
   refine(Tryz.slices_Clone_int b off l.length cap l w (lR _) (by omega) (λj hj=> ?_)).mono ?_
   ·rw[hc j hj]
    simp[List.getD,List.getElem?_eq_getElem hj]
   ·rintro e w' ⟨v,rfl,ho,-,hb'⟩
    rw[List.take_length] at ho
    exact⟨_,rfl,ho,hb'⟩

theorem Ky (V F:Int)(s:Option Addr)(c:List Ins)(cap:Nat)(g:Gs)(ss:Option Addr)(gc:Nat)(h:Gs)(st:Option Addr)(hc:Nat)(w:World)
  (hcd:CodeAt w s c)(hs:IntsAt w ss g.s)(h1:g.s.length≤gc)(h2:gc≤maxLen)(ht:IntsAt w st h.s)(h3:h.s.length≤hc)(h4:hc≤maxLen)(hck:aX V F c [g,h]=0)(hlen:g.s.length≤1000000):
  Calls pG 164 #[pv V F s c cap,I Y 4,gv g ss gc,gv h st hc] w λe w'=>∃v,e=Rt (Tu #[Ag #[Bb g.n,Bb g.sp.n,I Y g.sp.lo,I Y g.sp.hi,Bb g.t,Bb g.f,v],Bb false,I Y 0])∧w'.ownsRow w.heap.size 3 1 v g.s.length (g.s.map (.int .i64))∧Below w.heap.size w w':=by
 obtain⟨P0,G0,H0,R0,F0⟩:=eC w V F s c cap g ss gc h st hc
 have B0:=cU w V F s c cap g ss gc h st hc
 have C0:CodeAt (bH w V F s c cap g ss gc h st hc) s c:=hcd.below B0 (lR _)
 have I0:IntsAt (bH w V F s c cap g ss gc h st hc) ss g.s:=hs.below B0 (lR _)
 have J0:IntsAt (bH w V F s c cap g ss gc h st hc) st h.s:=ht.below B0 (lR _)
 have L0:=GsAt.new2 (bH w V F s c cap g ss gc h st hc) g ss gc h st hc I0 h1 h2 J0 h3 h4
 simp only[zA] at L0
 have HC:=aa (bZ V F s c cap (sO ⟨w.heap.size+1+1+1+1,0,nO⟩) [g,h] 2 _ (C0.alloc _) L0 (by simp))
 have FG:Fr7 (bH w V F s c cap g ss gc h st hc) (w.heap.size+1):=⟨λj=>by simp[go_sem],by simp⟩
 rw[hck] at HC
 go_enter Tryz.func164,Tryz.ntmps164
 go_wp2_with (go_at_call 142;fail)
 refine HC.out.mono ?_
 rintro e w1 ⟨rfl,hb1⟩
 have G1:=(G0.alloc _).call hb1
 have H1:=(H0.alloc _).call hb1
 have R1:=(R0.alloc _).call hb1
 have I1:=(I0.alloc _).call hb1
 have J1:=(J0.alloc _).call hb1
 have F1:Fr7 w1 (w.heap.size+1+1+1):=(F0.alloc _).call hb1
 have B1:Below w.heap.size w w1:=(B0.alloc B0.size _).trans (hb1.mono (by simp;omega))
 have X1:Fr7 w1 (w.heap.size+1):=(FG.alloc _).call hb1
 clear hb1 FG G0 H0 R0 I0 J0 F0 B0 C0 P0 L0 hcd hs ht HC
 obtain⟨⟨g0,g1,g2,g3,g4,g5,g6⟩,gz⟩:=id G1
 obtain⟨⟨k0,k1,k2,k3,k4,k5,k6⟩,kz⟩:=id H1
 simp only[j0] at g0 g1 g2 g3 g4 g5 g6 k0 k1 k2 k3 k4 k5 k6
 go_wp2_with (go_at_call 179;fail)
 refine(Cs ss gc g.s _ hlen I1).mono ?_
 rintro e w2 ⟨v,rfl,hown,hb2⟩
 have G2:=G1.call hb2
 have R2:=R1.call hb2
 have F2:=F1.call hb2
 have X2:=X1.call hb2
 have B2:=B1.trans (hb2.mono B1.size)
 have z2:=F1.2
 clear hb2 g0 g1 g2 g3 g4 g5 g6 gz k0 k1 k2 k3 k4 k5 k6 kz
 have O2:=hown
 obtain⟨vs,vc,hv,-,-,-,-⟩:=IntsAt.own hown
 subst hv
 obtain⟨⟨g0,g1,g2,g3,g4,g5,g6⟩,gz⟩:=id G2
 simp only[j0] at g0 g1 g2 g3 g4 g5 g6
 have fx:=X2.1
 obtain⟨⟨r0,r1,r2,r3,r4,r5,r6⟩,rz⟩:=id R2
 simp only[j0,dK] at r0 r1 r2 r3 r4 r5 r6
 have fz:=F2.1
 clear hown
 go_wp2
 refine bodyPost_ret (v:=Tu #[Ag #[Bb g.n,Bb g.sp.n,I Y g.sp.lo,I Y g.sp.hi,Bb g.t,Bb g.f,U vs g.s.length vc],Bb false,I Y 0]) (by simp[results,Tryz.results164,go_sem,r0,r1,r2,r3,r4,r5,r6,g0,g1,g2,g3,g4,g5,g6]) rfl ⟨_,rfl,?_,?_⟩
 ·exact iv (ix (tB O2 (by omega)) (by omega)) (by omega)
 ·exact dM (B2.setCell (by show w.heap.size≤w.heap.size+1;omega) _) (by omega)
end
end Go.Proofs.YtmapdpcfanecdabGreatDoor
