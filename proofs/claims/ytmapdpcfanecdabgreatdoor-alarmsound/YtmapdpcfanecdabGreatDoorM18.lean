import Derived.Test.YtmapdpcfanecdabGreatDoorM17
open Go.Ending renaming returned→Rt
open Go.IntKind renaming i64→Y
open Go.Obj renaming cells→Cc
open Go.Proofs.Tryz renaming prog→pG
open Go.RowKit.Below renaming refl→bR
open Go.Value renaming bool→Bb,int→I,slice→U,tuple→Tu
open Go.World renaming size_alloc→zA
open List renaming drop_eq_nil_of_le→j0
open Option renaming none→nO,some→sO
set_option linter.unusedSimpArgs false
set_option linter.unusedVariables false
set_option maxHeartbeats 2000000
set_option maxRecDepth 100000
namespace Go.Proofs.YtmapdpcfanecdabGreatDoor
section
open Go.RowKit
theorem lW (l:List Gs)(p:Gs→Bool)(k:Nat)(h:k < l.length):(l.drop k).any p=(p l[k]||(l.drop (k+1)).any p):=by
 rw[List.drop_eq_getElem_cons h];rfl

theorem vh (g:Gs)(ss:Option Addr)(gc:Nat)(w:World):
  Calls pG 246 #[gv g ss gc] w λe w'=>e=Rt (Bb (aW g))∧Below w.heap.size w w':=by
 have HO:Hid (aW g=(g.n||(g.t||(g.f||decide (0 < g.s.length))))):=rfl
 generalize aW g=o at *
 obtain⟨n,⟨sn,lo,hi⟩,t,f,s⟩:=g
 cases n
 all_goals cases t
 all_goals cases f
 all_goals
  go_enter Tryz.func246,Tryz.ntmps246
  go_wp2
  go_ret
  exact⟨aI (by rw[HO.out];simp),by go_grown⟩

theorem sk {p:Prop}(h:p:=by
 refine(HF.out L[k] ss gc _).mono ?_
 rintro e w1 ⟨rfl,hb1⟩
 cases hp:p L[k] with
 |true=>
  have HT:Hid (L.any p=true):=by show _=_;rw[HA.out,HN.out,hp];rfl
  clear HN HA
  go_wp2
  go_ret
  exact⟨_,rfl,by rw[HT.out];simp,hbr.trans (hb1.mono s0)⟩
 |false=>
  have HT:Hid (L.any p=(L.drop (k+1)).any p):=by show _=_;rw[HA.out,HN.out,hp];rfl
  have hR':=hR.call hb1
  clear HN HA
  go_wp2
  go_roundw
  case rel=>exact⟨k+1,by omega,by go_num,hR',hbr.trans (hb1.mono s0),HT⟩
  case measure=>simp[intOf];omega):p:=h
theorem re (p:Gs→Bool)(ls:Option Addr)(L:List Gs)(lc:Nat)(w:World)(hl:L.length≤9223372036854775807)(hL:GhAt w ls L)
  (hF:∀g ss gc wx,Calls pG 246 #[gv g ss gc] wx λe w'=>e=Rt (Bb (p g))∧Below wx.heap.size wx w'):
  Calls pG 193 #[U ls L.length lc,.func (.func 246) #[] #[]] w λe w'=>∃n:Int,e=Rt (I Y n)∧decide (0≤n)=L.any p∧Below w.heap.size w w':=by
 have HF:=aa hF
 clear hF
 go_enter Tryz.func193,Tryz.ntmps193
 go_wp2
 go_loopw [8] (λi wr=>∃k:Nat,k≤L.length∧i=I Y k∧GhAt wr ls L∧Below w.heap.size w wr∧Hid (L.any p=(L.drop k).any p)) (λi _=>L.length - (intOf i).toNat)
 case atStart=>exact⟨0,Nat.zero_le _,rfl,hL,bR _ _,rfl⟩
 case round=>
  obtain⟨k,hk,rfl,hR,hbr,HA⟩:=hrel
  by_cases hlt:k < L.length
  ·obtain⟨b,off,rfl,ss,gc,hG⟩:=hR k hlt
   obtain⟨⟨g0,g1,g2,g3,g4,g5,g6⟩,gz⟩:=id hG
   have n0:(0:Int)≤(k:Int):=by omega
   have n1:(k:Int) < (L.length:Int):=by omega
   have s0:=hbr.size
   have HN:Hid ((L.drop k).any p=(p L[k]||(L.drop (k+1)).any p)):=lW L p k hlt
   go_wp2_with (go_at_call 246;fail)
   exact sk
  ·go_wp2
   go_ret
   exact⟨_,rfl,by rw[HA.out,j0 (by omega)];rfl,hbr⟩

theorem nf (p:Gs→Bool)(ls:Option Addr)(L:List Gs)(lc:Nat)(w:World)(hl:L.length≤9223372036854775807)(hL:GhAt w ls L)
  (hF:∀g ss gc wx,Calls pG 246 #[gv g ss gc] wx λe w'=>e=Rt (Bb (p g))∧Below wx.heap.size wx w'):
  Calls pG 141 #[U ls L.length lc,.func (.func 246) #[] #[]] w λe w'=>e=Rt (Bb (L.any p))∧Below w.heap.size w w':=by
 have HF:=aa hF
 clear hF
 go_enter Tryz.func141,Tryz.ntmps141
 go_wp2_with (go_at_call 193;fail)
 refine(re p ls L lc _ hl hL HF.out).mono ?_
 rintro e w1 ⟨n,rfl,hn,hb1⟩
 go_wp2
 go_ret
 exact⟨rfl,hb1⟩

theorem oG (ls:Option Addr)(L:List Gs)(lc:Nat)(w:World)(hl:L.length≤9223372036854775807)(hL:GhAt w ls L):
  Calls pG 232 #[U ls L.length lc] w λe w'=>e=Rt (Bb (L.any aW))∧Below w.heap.size w w':=by
 go_enter Tryz.func232,Tryz.ntmps232
 go_wp2_with (go_at_call 141;fail)
 refine(nf aW ls L lc _ hl hL λg ss gc wx=>vh g ss gc wx).mono ?_
 rintro e w1 ⟨rfl,hb1⟩
 go_wp2
 go_ret
 exact⟨rfl,hb1⟩

theorem rK (g:Gs)(ss:Option Addr)(gc:Nat)(w:World):
  Calls pG 247 #[gv g ss gc] w λe w'=>e=Rt (Bb (aB g))∧Below w.heap.size w w':=by
 have HO:Hid (aB g=(g.sp.n&& !aW g)):=rfl
 have hA:=oG (sO ⟨w.heap.size+1,0,nO⟩) [g] 1
 have G0:=GhAt.new1 (w.alloc (Cc #[Bb g.n,Bb g.sp.n,I Y g.sp.lo,I Y g.sp.hi,Bb g.t,Bb g.f,U ss g.s.length gc] 91)) g ss gc
 rw[zA] at G0
 rw[show [g].any aW=aW g by simp] at hA
 have HA:=aa hA
 clear hA
 generalize aW g=oo at *
 generalize aB g=o at *
 obtain⟨n,⟨sn,lo,hi⟩,t,f,s⟩:=g
 cases sn with
 |true=>
  go_enter Tryz.func247,Tryz.ntmps247
  go_wp2_with (go_at_call 232;fail)
  refine(HA.out _ (by simp) G0).mono ?_
  rintro e w1 ⟨rfl,hb1⟩
  go_wp2
  go_ret
  exact⟨aI (by rw[HO.out];simp),Below.trans (by go_grown) (hb1.mono (by simp;omega))⟩
 |false=>
  go_enter Tryz.func247,Tryz.ntmps247
  go_wp2
  go_ret
  exact⟨aI (by rw[HO.out];rfl),by go_grown⟩

theorem nL (p:Gs→Bool)(ls:Option Addr)(L:List Gs)(lc:Nat)(w:World)(hl:L.length≤9223372036854775807)(hL:GhAt w ls L)
  (hF:∀g ss gc wx,Calls pG 247 #[gv g ss gc] wx λe w'=>e=Rt (Bb (p g))∧Below wx.heap.size wx w'):
  Calls pG 193 #[U ls L.length lc,.func (.func 247) #[] #[]] w λe w'=>∃n:Int,e=Rt (I Y n)∧decide (0≤n)=L.any p∧Below w.heap.size w w':=by
 have HF:=aa hF
 clear hF
 go_enter Tryz.func193,Tryz.ntmps193
 go_wp2
 go_loopw [8] (λi wr=>∃k:Nat,k≤L.length∧i=I Y k∧GhAt wr ls L∧Below w.heap.size w wr∧Hid (L.any p=(L.drop k).any p)) (λi _=>L.length - (intOf i).toNat)
 case atStart=>exact⟨0,Nat.zero_le _,rfl,hL,bR _ _,rfl⟩
 case round=>
  obtain⟨k,hk,rfl,hR,hbr,HA⟩:=hrel
  by_cases hlt:k < L.length
  ·obtain⟨b,off,rfl,ss,gc,hG⟩:=hR k hlt
   obtain⟨⟨g0,g1,g2,g3,g4,g5,g6⟩,gz⟩:=id hG
   have n0:(0:Int)≤(k:Int):=by omega
   have n1:(k:Int) < (L.length:Int):=by omega
   have s0:=hbr.size
   have HN:Hid ((L.drop k).any p=(p L[k]||(L.drop (k+1)).any p)):=lW L p k hlt
   go_wp2_with (go_at_call 247;fail)
   exact sk
  ·go_wp2
   go_ret
   exact⟨_,rfl,by rw[HA.out,j0 (by omega)];rfl,hbr⟩

theorem l9 (p:Gs→Bool)(ls:Option Addr)(L:List Gs)(lc:Nat)(w:World)(hl:L.length≤9223372036854775807)(hL:GhAt w ls L)
  (hF:∀g ss gc wx,Calls pG 247 #[gv g ss gc] wx λe w'=>e=Rt (Bb (p g))∧Below wx.heap.size wx w'):
  Calls pG 141 #[U ls L.length lc,.func (.func 247) #[] #[]] w λe w'=>e=Rt (Bb (L.any p))∧Below w.heap.size w w':=by
 have HF:=aa hF
 clear hF
 go_enter Tryz.func141,Tryz.ntmps141
 go_wp2_with (go_at_call 193;fail)
 refine(nL p ls L lc _ hl hL HF.out).mono ?_
 rintro e w1 ⟨n,rfl,hn,hb1⟩
 go_wp2
 go_ret
 exact⟨rfl,hb1⟩

theorem iI (ls:Option Addr)(L:List Gs)(lc:Nat)(w:World)(hl:L.length≤9223372036854775807)(hL:GhAt w ls L):
  Calls pG 233 #[U ls L.length lc] w λe w'=>e=Rt (Bb (L.any aB))∧Below w.heap.size w w':=by
 go_enter Tryz.func233,Tryz.ntmps233
 go_wp2_with (go_at_call 141;fail)
 refine(l9 aB ls L lc _ hl hL λg ss gc wx=>rK g ss gc wx).mono ?_
 rintro e w1 ⟨rfl,hb1⟩
 go_wp2
 go_ret
 exact⟨rfl,hb1⟩

theorem pm (ls:Option Addr)(L:List Gs)(lc:Nat)(w:World)(hl:L.length≤9223372036854775807)(hL:GhAt w ls L):
  Calls pG 203 #[U ls L.length lc] w λe w'=>e=Rt (Bb (L.any aW&& !L.any aB))∧Below w.heap.size w w':=by
 have H1:=aa (oG ls L lc w hl hL)
 cases ho:L.any aW with
 |true=>
  rw[ho] at H1
  go_enter Tryz.func203,Tryz.ntmps203
  go_wp2_with (go_at_call 232;fail)
  refine H1.out.mono ?_
  rintro e w1 ⟨rfl,hb1⟩
  go_wp2_with (go_at_call 233;fail)
  refine(iI ls L lc _ hl (hL.call hb1)).mono ?_
  rintro e w2 ⟨rfl,hb2⟩
  go_wp2
  go_ret
  exact⟨rfl,hb1.trans (hb2.mono hb1.size)⟩
 |false=>
  rw[ho] at H1
  go_enter Tryz.func203,Tryz.ntmps203
  go_wp2_with (go_at_call 232;fail)
  refine H1.out.mono ?_
  rintro e w1 ⟨rfl,hb1⟩
  go_wp2
  go_ret
  exact⟨rfl,hb1⟩

theorem EM (s t:Sp)(w:World):
  Calls pG 205 #[sv s,sv t] w λe w'=>e=Rt (Tu #[Bb (!(s.n||t.n)&&decide (s.lo < t.hi)),Bb (!(s.n||t.n)&&decide (t.lo≤s.hi))])∧Below w.heap.size w w':=by
 obtain⟨sn,lo,hi⟩:=s
 obtain⟨tn,lo',hi'⟩:=t
 cases sn with
 |true=>
  go_enter Tryz.func205,Tryz.ntmps205
  go_wp2
  go_ret2
  exact⟨rfl,by go_grown⟩
 |false=>
  cases tn with
  |true=>
   go_enter Tryz.func205,Tryz.ntmps205
   go_wp2
   go_ret2
   exact⟨rfl,by go_grown⟩
  |false=>
   go_enter Tryz.func205,Tryz.ntmps205
   go_wp2
   go_quiet (fail)
   go_wp2
   go_ret2
   exact⟨fC (by simp) (by simp),below_drewN (by go_grown) _⟩

theorem kk (y n:Bool)(w:World):
  Calls pG 204 #[Bb y,Bb n] w λe w'=>e=Rt (gv ⟨false,⟨true,0,0⟩,y,n,[]⟩ nO 0)∧Below w.heap.size w w':=by
 go_enter Tryz.func204,Tryz.ntmps204
 go_wp2
 go_returns
 exact⟨rfl,by go_grown⟩
end
end Go.Proofs.YtmapdpcfanecdabGreatDoor
