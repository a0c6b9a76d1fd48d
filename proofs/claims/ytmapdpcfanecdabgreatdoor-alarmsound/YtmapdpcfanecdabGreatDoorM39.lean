import Derived.Test.YtmapdpcfanecdabGreatDoorM38
open Go.Ending renaming returned→Rt
open Go.IntKind renaming i64→Y
open Go.Obj renaming cells→Cc
open Go.Proofs.Tryz renaming prog→pG
open Go.RowKit.Below renaming refl→bR
open Go.Value renaming bool→Bb,int→I,slice→U
open List renaming pairwise_cons→j0
open Nat renaming le_refl→lR,lt_of_lt_of_le→lL
open Option renaming none→nO,some→sO
set_option linter.unusedSimpArgs false
set_option linter.unusedVariables false
set_option maxHeartbeats 4000000
set_option maxRecDepth 10000
namespace Go.Proofs.YtmapdpcfanecdabGreatDoor
section
open Go.RowKit
attribute [local go_sem ↓] Go.wp_at_zero Go.wp_at_succ
theorem ph:∀{l:List Int},cX l=true→l.Pairwise (· < ·)
 |[],_=>List.Pairwise.nil
 |[a],_=>List.pairwise_singleton _ _
 |a::b::r,h=>by
  unfold cX at h
  simp only[Bool.and_eq_true,decide_eq_true_eq] at h
  have ih:=ph h.2
  rw[j0]
  refine⟨λx hx=> ?_,ih⟩
  rw[j0] at ih
  rcases List.mem_cons.1 hx with rfl|hx
  ·exact h.1
  ·have:=ih.1 x hx
   omega
theorem BC {c:List Ins}{g:Gs}(h60:c.length≤60)(h:aC c g=0):cA [g,g]=g.s:=by
 obtain⟨h1,h2⟩:=du h60 h
 rw[mi g g h1 h1]
 refine mt _ _ (n9 _ _ _) (ph h2) λx=> ?_
 rw[sd]
 constructor
 ·rintro ⟨-,h|h⟩<;>exact h
 ·intro hx
  exact⟨h1 x hx,.inl hx⟩
theorem wL {c:List Ins}{g:Gs}{op:Sp→Sp→Sp}(hop:∀s,op s s=s)(h60:c.length≤60)(h:aC c g=0):dh op g g=g:=by
 unfold dh
 rw[BC h60 h,hop]
 simp
theorem Ak (s:Sp):bq s s=s:=by
 obtain⟨n,lo,hi⟩:=s
 unfold bq
 cases n<;>simp
theorem yQ (s:Sp):bB s s=s:=by
 obtain⟨n,lo,hi⟩:=s
 unfold bB
 cases n<;>simp
theorem uw {w w':World}{js:Option Addr}{l:List Int}{N:Nat}(h:IntsAt w js l)(hf:∀a,js=sO a→N≤a.block)(hs:∀b,N≤b→w'.heap[b]? =w.heap[b]?)(hz:w.heap.size≤w'.heap.size):IntsAt w' js l:=by
 rcases h with h|⟨b,off,e,hb,hc⟩
 ·exact .inl h
 ·have hn:=hf _ e
  exact .inr ⟨b,off,e,lL hb hz,λk hk=>by rw[World.cell?_of_block (a:=⟨b,off+k,nO⟩) (hs b hn)];exact hc k hk⟩
theorem GuAt.put6 {w:World}{b:Nat}{g:Gs}{ss js:Option Addr}{gc jc:Nat}(h:GuAt w b 0 g ss gc):GuAt (w.setCell ⟨b,6,nO⟩ (U js g.s.length jc)) b 0 g js jc:=by
 obtain⟨⟨h0,h1,h2,h3,h4,h5,h6⟩,hz⟩:=h
 simp only[Nat.zero_add] at h0 h1 h2 h3 h4 h5 h6
 have ne:∀i,i≠6→(w.setCell ⟨b,6,nO⟩ (U js g.s.length jc)).cell? ⟨b,i,nO⟩=w.cell? ⟨b,i,nO⟩:=λi hi=>World.cell?_setCell_other _ _ _ _ (by intro e;cases e;exact hi rfl)
 simp only[GuAt,Nat.zero_add]
 exact⟨⟨(ne _ (by omega)).trans h0,(ne _ (by omega)).trans h1,(ne _ (by omega)).trans h2,(ne _ (by omega)).trans h3,(ne _ (by omega)).trans h4,(ne _ (by omega)).trans h5,World.cell?_setCell_same _ _ _ h6⟩,by simpa[World.setCell] using hz⟩
theorem AQ (ss:Option Addr)(cap:Nat)(l:List Int)(w:World)(hl:l.length≤1000000)(hs:IntsAt w ss l):
  Calls pG 179 #[U ss l.length cap] w λe w'=>(∃js jc,e=Rt (U js l.length jc)∧IntsAt w' js l∧l.length≤jc∧jc≤maxLen∧∀a,js=sO a→w.heap.size≤a.block)∧Below w.heap.size w w':=by
 have key:Calls pG 179 #[U ss l.length cap] w λe w'=>∃v,e=Rt v∧w'.ownsRow w.heap.size 3 1 v l.length (l.map (.int .i64))∧Below w.heap.size w w':=by
  cases ss with
  |none=>
   have h0:l=[]:=by
    rcases hs with h|⟨_,_,h,_⟩
    ·exact h
    ·cases h
   subst h0
   refine(Tryz.slices_Clone_int_nil _ _ _).mono ?_
   rintro e w' ⟨rfl,rfl⟩
   exact⟨_,rfl,⟨rfl,.inl ⟨rfl,rfl⟩⟩,bR _ _⟩
  |some a=>
   by_cases h0:l=[]
   ·subst h0
    refine(Tryz.slices_Clone_int_zero a cap w).mono ?_
    rintro e w' ⟨v,rfl,ho,-,hb⟩
    exact⟨_,rfl,ho,hb⟩
   ·obtain⟨b,off,e,hb,hc⟩:=hs.get 0 (List.length_pos_iff.2 h0)
    cases e
    refine(Tryz.slices_Clone_int b off l.length cap l w (lR _) (by omega) (λj hj=> ?_)).mono ?_
    ·rw[hc j hj]
     simp[List.getD,List.getElem?_eq_getElem hj]
    ·rintro e w' ⟨v,rfl,ho,-,hb'⟩
     rw[List.take_length] at ho
     exact⟨_,rfl,ho,hb'⟩
 refine key.mono ?_
 rintro e w' ⟨v,rfl,ho,hb⟩
 obtain⟨js,jc,rfl,hi,k1,k2,hf⟩:=IntsAt.own ho
 exact⟨⟨js,jc,rfl,hi,k1,k2,hf⟩,hb⟩
theorem uM (V F:Int)(s:Option Addr)(c:List Ins)(cap:Nat)(x:Pic)(vs1:Option Addr)(vc1:Nat)(fs1:Option Addr)(fc1:Nat)(y:Pic)(vs2:Option Addr)(vc2:Nat)(fs2:Option Addr)(fc2:Nat)(w:World)(hcd:CodeAt w s c)(hx:PicAt w x vs1 fs1)(h1:x.vars.length≤vc1∧vc1≤maxLen)(h2:x.flds.length≤fc1∧fc1≤maxLen)(hy:PicAt w y vs2 fs2)(h3:y.vars.length≤vc2∧vc2≤maxLen)(h4:y.flds.length≤fc2∧fc2≤maxLen):
  Calls pG 51 #[pv V F s c cap,xv x vs1 vc1 fs1 fc1,xv y vs2 vc2 fs2 fc2] w λe w'=>e=Rt (Bb (if aJ V F c [x,y]=0 then bw x y else false))∧Below w.heap.size w w':=by
 have B0:Below w.heap.size w (((w.alloc (Cc #[I Y V,I Y F,U s c.length cap] 24)).alloc (Cc #[Bb x.none,U vs1 x.vars.length vc1,U fs1 x.flds.length fc1] 28)).alloc (Cc #[Bb y.none,U vs2 y.vars.length vc2,U fs2 y.flds.length fc2] 28)):=by go_grown
 have HW:=aa (Fe V F s c cap x vs1 vc1 fs1 fc1 y vs2 vc2 fs2 fc2 (((w.alloc (Cc #[I Y V,I Y F,U s c.length cap] 24)).alloc (Cc #[Bb x.none,U vs1 x.vars.length vc1,U fs1 x.flds.length fc1] 28)).alloc (Cc #[Bb y.none,U vs2 y.vars.length vc2,U fs2 y.flds.length fc2] 28)) (hcd.below B0 (lR _)) (hx.below B0 (lR _)) h1 h2 (hy.below B0 (lR _)) h3 h4)
 clear hcd hx hy h1 h2 h3 h4
 generalize (if aJ V F c [x,y]=0 then bw x y else false)=r at *
 go_enter Tryz.func51,Tryz.ntmps51
 go_wp2_with (go_at_call 102;fail)
 refine HW.out.mono ?_
 rintro e w1 ⟨rfl,hb1⟩
 go_wp2
 go_ret
 exact⟨rfl,B0.trans (hb1.mono B0.size)⟩
end
end Go.Proofs.YtmapdpcfanecdabGreatDoor
