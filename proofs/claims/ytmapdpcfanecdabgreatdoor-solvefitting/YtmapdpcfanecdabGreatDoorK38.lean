import Derived.Test.YtmapdpcfanecdabGreatDoorK37
open Go.Ending renaming returned→Rt
open Go.IntKind renaming i64→Y
open Go.Obj renaming cells→Cc
open Go.Proofs.Tryz renaming prog→pG
open Go.RowKit.Below renaming refl→bR
open Go.Value renaming bool→Bb,int→I,slice→U
open List renaming pairwise_cons→j0
open Nat renaming le_refl→lR,lt_of_lt_of_le→lL
open Option renaming none→nO,some→sO
set_option linter.unusedSimpArgs false
set_option linter.unusedVariables false
set_option maxHeartbeats 8000000
set_option maxRecDepth 20000
namespace Go.Proofs.YtmapdpcfanecdabGreatDoor
section
open Go.RowKit
attribute [local go_sem ↓] Go.wp_at_zero Go.wp_at_succ
theorem iI (V F:Int)(s:Option Addr)(c:List Ins)(cap:Nat)(x:Pic)(vs1:Option Addr)(vc1:Nat)(fs1:Option Addr)(fc1:Nat)(y:Pic)(vs2:Option Addr)(vc2:Nat)(fs2:Option Addr)(fc2:Nat)(w:World)(hcd:CodeAt w s c)(hx:PicAt w x vs1 fs1)(h1:x.vars.length≤vc1∧vc1≤maxLen)(h2:x.flds.length≤fc1∧fc1≤maxLen)(hy:PicAt w y vs2 fs2)(h3:y.vars.length≤vc2∧vc2≤maxLen)(h4:y.flds.length≤fc2∧fc2≤maxLen):
  Calls pG 51 #[pv V F s c cap,xv x vs1 vc1 fs1 fc1,xv y vs2 vc2 fs2 fc2] w λe w'=>e=Rt (Bb (if aq V F c [x,y]=0 then aT x y else false))∧Below w.heap.size w w':=by
 have B0:Below w.heap.size w (((w.alloc (Cc #[I Y V,I Y F,U s c.length cap] 24)).alloc (Cc #[Bb x.none,U vs1 x.vars.length vc1,U fs1 x.flds.length fc1] 28)).alloc (Cc #[Bb y.none,U vs2 y.vars.length vc2,U fs2 y.flds.length fc2] 28)):=by go_grown
 have HW:=aa (Ei V F s c cap x vs1 vc1 fs1 fc1 y vs2 vc2 fs2 fc2 (((w.alloc (Cc #[I Y V,I Y F,U s c.length cap] 24)).alloc (Cc #[Bb x.none,U vs1 x.vars.length vc1,U fs1 x.flds.length fc1] 28)).alloc (Cc #[Bb y.none,U vs2 y.vars.length vc2,U fs2 y.flds.length fc2] 28)) (hcd.below B0 (lR _)) (hx.below B0 (lR _)) h1 h2 (hy.below B0 (lR _)) h3 h4)
 clear hcd hx hy h1 h2 h3 h4
 generalize (if aq V F c [x,y]=0 then aT x y else false)=r at *
 go_enter Tryz.func51,Tryz.ntmps51
 go_wp2_with (go_at_call 102;fail)
 refine HW.out.mono ?_
 rintro e w1 ⟨rfl,hb1⟩
 go_wp2
 go_ret
 exact⟨rfl,B0.trans (hb1.mono B0.size)⟩
def eQ (V F:Int)(c:List Ins):List Pic→Int
 |[]=>0
 |x::r=>if aq V F c [x]=0 then eQ V F c r else aq V F c [x]
theorem wF {V F:Int}{c:List Ins}{L:List Pic}{k:Nat}(h:k < L.length):eQ V F c (L.drop k)=if aq V F c [L[k]]=0 then eQ V F c (L.drop (k+1)) else aq V F c [L[k]]:=by
 rw[List.drop_eq_getElem_cons h];rfl
theorem ud (V F:Int)(s:Option Addr)(c:List Ins)(cap:Nat)(ls:Option Addr)(L:List Pic)(lc:Nat)(w:World)(hc:CodeAt w s c)(hL:XsAt w ls L)(hl:L.length≤maxLen)(hcl:c.length≤60):
  Calls pG 50 #[pv V F s c cap,U ls L.length lc] w λe w'=>e=Rt (I Y (if L.length=c.length+1 then eQ V F c L else 1))∧Below w.heap.size w w':=by
 have hm:maxLen≤9223372036854775807:=by decide
 have P0:=PrAt.new w V F s c cap
 have B0:Below w.heap.size w (w.alloc (Cc #[I Y V,I Y F,U s c.length cap] 24)):=by go_grown
 have HCK:Hid (∀wx x vs vc fs fc,CodeAt wx s c→PicAt wx x vs fs→x.vars.length≤vc∧vc≤maxLen→x.flds.length≤fc∧fc≤maxLen→Calls pG 41 #[pv V F s c cap,xv x vs vc fs fc] wx λe w'=>e=Rt (I Y (aq V F c [x]))∧Below wx.heap.size wx w'):=λwx x vs vc fs fc q1 q2 q3 q4=>go V F s c cap x vs vc fs fc wx q1 q2 q3 q4
 have C0:=hc.below B0 (lR _)
 have X0:=hL.below B0 (lR _)
 clear hc hL
 obtain⟨⟨p0,p1,p2⟩,pz⟩:=id P0
 by_cases hn:L.length=c.length+1
 rotate_left
 ·have e1:((L.length:Int)!=(c.length:Int)+1)=true:=by simpa using λh=>hn (by omega)
  rw[if_neg hn]
  clear hn
  have w1:IntKind.i64.wrap ((c.length:Int)+1)=(c.length:Int)+1:=by rw[IntKind.wrap_i64];omega
  go_enter Tryz.func50,Tryz.ntmps50
  go_wp2
  go_ret
  exact⟨rfl,B0⟩
 have e1:((L.length:Int)!=(c.length:Int)+1)=false:=by rw[hn];simp
 rw[if_pos hn]
 have HN:=aa hn
 clear hn
 have w1:IntKind.i64.wrap ((c.length:Int)+1)=(c.length:Int)+1:=by rw[IntKind.wrap_i64];omega
 go_enter Tryz.func50,Tryz.ntmps50
 go_upto_region 1 with fail
 generalize w.alloc (Cc #[I Y V,I Y F,U s c.length cap] 24)=w0 at *
 go_wp2
 clear p0 p1 p2 pz e1
 go_loopw [17] (λi wr=>∃k:Nat,k≤L.length∧i=I Y k∧Hid (eQ V F c (L.drop k)=eQ V F c L)∧Below w0.heap.size w0 wr) (λi _=>L.length - (intOf i).toNat)
 case atStart=>exact⟨0,Nat.zero_le _,rfl,rfl,bR _ _⟩
 case round=>
  obtain⟨k,hk,rfl,HE,hbr⟩:=hrel
  have P1:=P0.call hbr
  have C1:=C0.call hbr
  by_cases hlt:k < L.length
  ·have n0:(0:Int)≤(k:Int):=by omega
   have n1:(k:Int) < (L.length:Int):=by omega
   obtain⟨b,off,rfl,zb,vs,vc,fs,fc,⟨q0,q1,q2⟩,hP,hQ1,hQ2⟩:=X0.below hbr (lR _) k hlt
   have hba:Below wr.heap.size wr (wr.alloc (Cc #[Bb L[k].none,U vs L[k].vars.length vc,U fs L[k].flds.length fc] 28)):=by go_grown
   obtain⟨⟨p0,p1,p2⟩,pz⟩:=id P1
   go_wp2_with (go_at_call 41;fail)
   refine(HCK.out _ L[k] vs vc fs fc (C1.call hba) (hP.call hba) hQ1 hQ2).mono ?_
   rintro e w2 ⟨rfl,hb2⟩
   have hb3:=hba.trans (hb2.mono hba.size)
   have hb4:=hbr.trans (hb3.mono hbr.size)
   have hb5:=B0.trans (hb4.mono B0.size)
   have HD:=aa (wF (V:=V) (F:=F) (c:=c) hlt)
   generalize aq V F c [L[k]]=r at *
   clear p0 p1 p2 pz q0 q1 q2 hP hba hb2 hb3
   by_cases hr:r=0
   ·have f1:(r !=0)=false:=by simpa using hr
    have HR:=aa hr
    clear hr
    go_wp2
    go_roundw
    case rel=>exact⟨k+1,by omega,by go_num,by show _=_;rw[←HE.out,HD.out,if_pos HR.out],hb4⟩
    case measure=>simp[intOf];omega
   ·have f1:(r !=0)=true:=by simpa using hr
    have HR:=aa hr
    clear hr
    go_wp2
    go_ret
    exact⟨bn (by rw[←HE.out,HD.out,if_neg HR.out]),hb5⟩
  ·have n1:¬(k:Int) < (L.length:Int):=by omega
   go_wp2
   go_ret
   exact⟨bn (by rw[←HE.out,List.drop_eq_nil_of_le (by omega)];rfl),B0.trans (hbr.mono B0.size)⟩
theorem oa:∀{l:List Int},cW l=true→l.Pairwise (· < ·)
 |[],_=>List.Pairwise.nil
 |[a],_=>List.pairwise_singleton _ _
 |a::b::r,h=>by
  unfold cW at h
  simp only[Bool.and_eq_true,decide_eq_true_eq] at h
  have ih:=oa h.2
  rw[j0]
  refine⟨λx hx=> ?_,ih⟩
  rw[j0] at ih
  rcases List.mem_cons.1 hx with rfl|hx
  ·exact h.1
  ·have:=ih.1 x hx
   omega
theorem AB {c:List Ins}{g:Gs}(h60:c.length≤60)(h:aw c g=0):cy [g,g]=g.s:=by
 obtain⟨h1,h2⟩:=dp h60 h
 rw[lC g g h1 h1]
 refine lX _ _ (mY _ _ _) (oa h2) λx=> ?_
 rw[ri]
 constructor
 ·rintro ⟨-,h|h⟩<;>exact h
 ·intro hx
  exact⟨h1 x hx,.inl hx⟩
theorem vV {c:List Ins}{g:Gs}{op:Sp→Sp→Sp}(hop:∀s,op s s=s)(h60:c.length≤60)(h:aw c g=0):cZ op g g=g:=by
 unfold cZ
 rw[AB h60 h,hop]
 simp
theorem yd (s:Sp):bj s s=s:=by
 obtain⟨n,lo,hi⟩:=s
 unfold bj
 cases n<;>simp
theorem yo (s:Sp):bw s s=s:=by
 obtain⟨n,lo,hi⟩:=s
 unfold bw
 cases n<;>simp
theorem sK {w w':World}{js:Option Addr}{l:List Int}{N:Nat}(h:IntsAt w js l)(hf:∀a,js=sO a→N≤a.block)(hs:∀b,N≤b→w'.heap[b]? =w.heap[b]?)(hz:w.heap.size≤w'.heap.size):IntsAt w' js l:=by
 rcases h with h|⟨b,off,e,hb,hc⟩
 ·exact .inl h
 ·have hn:=hf _ e
  exact .inr ⟨b,off,e,lL hb hz,λk hk=>by rw[World.cell?_of_block (a:=⟨b,off+k,nO⟩) (hs b hn)];exact hc k hk⟩
theorem GuAt.put6 {w:World}{b:Nat}{g:Gs}{ss js:Option Addr}{gc jc:Nat}(h:GuAt w b 0 g ss gc):GuAt (w.setCell ⟨b,6,nO⟩ (U js g.s.length jc)) b 0 g js jc:=by
 obtain⟨⟨h0,h1,h2,h3,h4,h5,h6⟩,hz⟩:=h
 simp only[Nat.zero_add] at h0 h1 h2 h3 h4 h5 h6
 have ne:∀i,i≠6→(w.setCell ⟨b,6,nO⟩ (U js g.s.length jc)).cell? ⟨b,i,nO⟩=w.cell? ⟨b,i,nO⟩:=λi hi=>World.cell?_setCell_other _ _ _ _ (by intro e;cases e;exact hi rfl)
 simp only[GuAt,Nat.zero_add]
 exact⟨⟨(ne _ (by omega)).trans h0,(ne _ (by omega)).trans h1,(ne _ (by omega)).trans h2,(ne _ (by omega)).trans h3,(ne _ (by omega)).trans h4,(ne _ (by omega)).trans h5,World.cell?_setCell_same _ _ _ h6⟩,by simpa[World.setCell] using hz⟩
theorem Al (ss:Option Addr)(cap:Nat)(l:List Int)(w:World)(hl:l.length≤1000000)(hs:IntsAt w ss l):
  Calls pG 179 #[U ss l.length cap] w λe w'=>(∃js jc,e=Rt (U js l.length jc)∧IntsAt w' js l∧l.length≤jc∧jc≤maxLen∧∀a,js=sO a→w.heap.size≤a.block)∧Below w.heap.size w w':=by
 have key:Calls pG 179 #[U ss l.length cap] w λe w'=>∃v,e=Rt v∧w'.ownsRow w.heap.size 3 1 v l.length (l.map (.int .i64))∧Below w.heap.size w w':=by
  cases ss with
  |none=>
   have h0:l=[]:=by
    rcases hs with h|⟨_,_,h,_⟩
    ·exact h
    ·cases h
   subst h0
   refine(Tryz.slices_Clone_int_nil _ _ _).mono ?_
   rintro e w' ⟨rfl,rfl⟩
   exact⟨_,rfl,⟨rfl,.inl ⟨rfl,rfl⟩⟩,bR _ _⟩
  |some a=>
   by_cases h0:l=[]
   ·subst h0
    refine(Tryz.slices_Clone_int_zero a cap w).mono ?_
    rintro e w' ⟨v,rfl,ho,-,hb⟩
    exact⟨_,rfl,ho,hb⟩
   ·obtain⟨b,off,e,hb,hc⟩:=hs.get 0 (List.length_pos_iff.2 h0)
    cases e
    refine(Tryz.slices_Clone_int b off l.length cap l w (lR _) (by omega) (λj hj=> ?_)).mono ?_
    ·rw[hc j hj]
     simp[List.getD,List.getElem?_eq_getElem hj]
    ·rintro e w' ⟨v,rfl,ho,-,hb'⟩
     rw[List.take_length] at ho
     exact⟨_,rfl,ho,hb'⟩
 refine key.mono ?_
 rintro e w' ⟨v,rfl,ho,hb⟩
 obtain⟨js,jc,rfl,hi,k1,k2,hf⟩:=IntsAt.own ho
 exact⟨⟨js,jc,rfl,hi,k1,k2,hf⟩,hb⟩
end
end Go.Proofs.YtmapdpcfanecdabGreatDoor
