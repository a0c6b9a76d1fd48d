import Derived.Test.YtmapdpcfanecdabGreatDoorR09
import Derived.Lib.MinMax
open Go.Ending renaming returned→Rt
open Go.IntKind renaming i64→Y
open Go.Obj renaming cells→Cc
open Go.Proofs.Tryz renaming prog→pG
open Go.RowKit.Below renaming refl→bR
open Go.Value renaming bool→Bb,int→I,pointer→Pp,slice→U,tuple→Tu
open Go.World renaming size_alloc→zA
open List renaming drop_eq_nil_of_le→j1
open Nat renaming le_refl→lR,zero_add→j0
open Option renaming none→nO,some→sO
set_option linter.unusedSimpArgs false
set_option linter.unusedVariables false
set_option maxHeartbeats 4000000
set_option maxRecDepth 100000
namespace Go.Proofs.YtmapdpcfanecdabGreatDoor
section
open Go.RowKit
@[go_sem] theorem run_min4 {P:Program} (w:World) (ts:Array TypeId) (t:TypeId) (a b c d:Int):
  (Builtin.min_ ts t #[I Y a,I Y b,I Y c,I Y d]).run P w=.ok (I Y (dw a b c d)) w:=by
 have e:∀x y:Int,(if y < x then y else x)=min x y:=λx y=>by split<;>omega
 simp[Builtin.min_,Builtin.min2,e,dw]

@[go_sem] theorem run_max4 {P:Program} (w:World) (ts:Array TypeId) (t:TypeId) (a b c d:Int):
  (Builtin.max_ ts t #[I Y a,I Y b,I Y c,I Y d]).run P w=.ok (I Y (dx a b c d)) w:=by
 have e:∀x y:Int,(if x < y then y else x)=max x y:=λx y=>by split<;>omega
 simp[Builtin.max_,Builtin.max2,e,dx]

theorem rA {p:Prop}(h:p:=by
 go_enter Tryz.func228,Tryz.ntmps228;go_wp2_with (go_at_call 226;refine(tS _).mono ?_;rintro e w1 ⟨rfl,rfl⟩)
 go_returns
 exact⟨rfl,by go_grown⟩):p:=h
theorem kK (F:Nat)(s t:Sp)(w:World)(h:(s.n||t.n)=true):
  Calls pG 228 #[sv s,sv t,.func (.func F) #[] #[]] w λe w'=>e=Rt (sv ⟨true,0,0⟩)/\Below w.heap.size w w':=by
 obtain⟨n,lo,hi⟩:=s;obtain⟨n',lo',hi'⟩:=t;cases n with
 |true=>
  exact rA
 |false=>
  cases n' with
  |true=>
   exact rA
  |false=>simp at h

theorem Ao {a b c d:Int}(h1:aS (dw a b c d))(h2:aS (dx a b c d)):fE a b c d=⟨false,dw a b c d,dx a b c d⟩:=if_pos ⟨h1,h2⟩
theorem Hz {a b c d:Int}(h1:¬aS (dw a b c d)):fE a b c d=⟨false,-2147483648,2147483647⟩:=if_neg (λh=>h1 h.1)
theorem Id {a b c d:Int}(h1:¬aS (dx a b c d)):fE a b c d=⟨false,-2147483648,2147483647⟩:=if_neg (λh=>h1 h.2)
theorem lC {p:Prop}(h:p:=by
 clear h1 h2 h3 h4;go_enter Tryz.func228,Tryz.ntmps228;go_wp2
 go_quiet (first|exact Calls.quiet_of (k1 _)|exact Calls.quiet_of (k2 _)|exact Calls.quiet_of (k3 _)|exact Calls.quiet_of (k4 _))
 clear k1 k2 k3 k4;by_cases h1:aS (dw a b c d)
 ·have e1:decide (aS (dw a b c d))=true:=decide_eq_true h1
  by_cases h2:aS (dx a b c d)
  ·have e2:decide (aS (dx a b c d))=true:=decide_eq_true h2
   go_wp2_with (go_at_call 225;refine(fW _ _).mono ?_;rintro e w' ⟨rfl,rfl⟩)
   go_returns
   exact⟨fL (Ao h1 h2),by go_grown;exact below_drewN (by go_grown) _⟩
  ·have e2:decide (aS (dx a b c d))=false:=decide_eq_false h2
   go_wp2_with (first|(go_at_call 225;refine(fW _ _).mono ?_;rintro e w' ⟨rfl,rfl⟩)|(go_at_call 245;refine(DY _).mono ?_;rintro e w' ⟨rfl,rfl⟩))
   go_returns
   exact⟨fL (Id h2),by go_grown;exact below_drewN (by go_grown) _⟩
 ·have e1:decide (aS (dw a b c d))=false:=decide_eq_false h1
  go_wp2_with (first|(go_at_call 225;refine(fW _ _).mono ?_;rintro e w' ⟨rfl,rfl⟩)|(go_at_call 245;refine(DY _).mono ?_;rintro e w' ⟨rfl,rfl⟩))
  go_returns
  exact⟨fL (Hz h1),by go_grown;exact below_drewN (by go_grown) _⟩):p:=h
theorem gr {a b c d:Bool}(h:a=c)(h':b=d):Ending.returned (Tu #[Bb a,Bb b])=Rt (Tu #[Bb c,Bb d]):=by rw[h,h']

theorem sA {p:Prop}(h:p:=by
 go_wp2;refine wp_region_quiet_lit (by kernel_rfl) (by kernel_rfl) ?_
 repeat (any_goals (first|go_big_quiet_step (fail)|quiet_step (fail)|(refine wpQuiet_step (λK hK=> ?_);go_simp;split<;>(refine hK _ ?_;clear hK K))))
 all_goals (refine wpQuiet_nil ?_;intro _ hw';obtain⟨nq,hw''⟩:=hw';subst hw'')
 all_goals go_wp2
 all_goals go_ret2
 all_goals exact⟨gr (by rw[HY.out];simp_all) (by rw[HN.out];simp_all),below_drewN B1 _⟩):p:=h
theorem rZ {p:Prop}(h:p:=by
 clear hz HZ;go_wp2;refine wp_region_quiet_lit (by kernel_rfl) (by kernel_rfl) ?_
 repeat (any_goals (first|go_big_quiet_step (fail)|quiet_step (fail)|(refine wpQuiet_step (λK hK=> ?_);go_simp;split<;>(refine hK _ ?_;clear hK K))))
 all_goals (refine wpQuiet_nil ?_;intro _ hw';obtain⟨nq,hw''⟩:=hw';subst hw'')
 all_goals go_wp2
 all_goals go_ret2
 all_goals exact⟨gr rfl (by rw[HN.out];simp_all),below_drewN B1 _⟩):p:=h
theorem sj (g:Gs)(ss:oA)(gc:Nat)(w:World)(hsp:ci g.sp=0):
  Calls pG 198 #[gv g ss gc] w λe w'=>e=Rt (Tu #[Bb (bT g),Bb (cA g)])/\Below w.heap.size w w':=by
 have hH:=λw=>Iu g.sp 0 w;rw[hsp,show (decide ((0:Int)=0)&&g.sp.has 0)=g.sp.has 0 from rfl] at hH;have HY:Hid (bT g=((!g.sp.n&& !decide (g.sp.lo=0/\g.sp.hi=0))||(g.t||decide (0 < g.s.length)))):=rfl;have HN:Hid (cA g=(g.sp.has 0||(g.n||g.f))):=rfl;generalize bT g=yy at *;generalize cA g=nn at *;generalize g.sp.has 0=z at *;obtain⟨n,⟨sn,lo,hi⟩,t,f,s⟩:=g;have G0:=GuAt.new w ⟨n,⟨sn,lo,hi⟩,t,f,s⟩ ss gc;go_enter Tryz.func198,Tryz.ntmps198;go_wp2_with (go_at_call 143;fail);refine(hH _).mono ?_;rintro e w1 ⟨rfl,hb1⟩;have G1:=G0.call hb1;have B1:Below w.heap.size w w1:=Below.trans (by go_grown) (hb1.mono (by simp));obtain⟨⟨g0,g1,g2,g3,g4,g5,g6⟩,gz⟩:=id G1;simp only[j0] at g0 g1 g2 g3 g4 g5 g6;clear G0 G1 hb1 hH hsp;cases sn with
 |true=>
  exact sA
 |false=>
  by_cases hz:lo=0/\hi=0
  ·obtain⟨rfl,rfl⟩:=hz
   exact sA
  ·have HZ:Hid (decide (lo=0/\hi=0)=false):=by show _=_;simpa using hz
   have hm:yy=true:=by rw[HY.out,HZ.out];rfl
   subst hm;clear HY;by_cases h1:lo=0
   ·subst h1
    have h2:(hi==0)=false:=by simp only[beq_eq_false_iff_ne];intro h;exact hz ⟨rfl,h⟩
    exact rZ
   ·have h2:(lo==0)=false:=by simpa using h1
    exact rZ

theorem pK {p:Prop}(h:p:=by
 go_wp2_with (go_at_call 144;fail);refine(uN x ss gc h.s _ hl hs).mono ?_;rintro e w1 ⟨rfl,rfl⟩;go_wp2;go_ret;exact⟨aP (by simp),Below.refl _ _⟩):p:=h
theorem fN (x:Int)(q:Nat)(h:Gs)(ss:oA)(gc:Nat)(w:World)(hg:GuAt w q 0 h ss gc)(hs:IntsAt w ss h.s)(hl:h.s.length<=9223372036854775807):
  Calls pG 199 #[I Y x,Pp (sO ⟨q,0,nO⟩)] w λe w'=>e=Rt (Bb (!h.s.contains x))/\Below w.heap.size w w':=by
 obtain⟨⟨g0,g1,g2,g3,g4,g5,g6⟩,gz⟩:=id hg;simp only[j0] at g6;go_enter Tryz.func199,Tryz.ntmps199;exact pK

theorem eD (x:Int)(q:Nat)(h:Gs)(ss:oA)(gc:Nat)(w:World)(hg:GuAt w q 0 h ss gc)(hs:IntsAt w ss h.s)(hl:h.s.length<=9223372036854775807):
  Calls pG 234 #[I Y x,Pp (sO ⟨q,0,nO⟩)] w λe w'=>e=Rt (Bb (h.s.contains x))/\Below w.heap.size w w':=by
 obtain⟨⟨g0,g1,g2,g3,g4,g5,g6⟩,gz⟩:=id hg;simp only[j0] at g6;go_enter Tryz.func234,Tryz.ntmps234;exact pK
theorem ld (l:List Gs)(p:Gs->Bool)(k:Nat)(h:k < l.length):(l.drop k).any p=(p l[k]||(l.drop (k+1)).any p):=by
 rw[List.drop_eq_getElem_cons h];rfl

theorem vh (g:Gs)(ss:oA)(gc:Nat)(w:World):
  Calls pG 246 #[gv g ss gc] w λe w'=>e=Rt (Bb (aG g))/\Below w.heap.size w w':=by
 have HO:Hid (aG g=(g.n||(g.t||(g.f||decide (0 < g.s.length))))):=rfl;generalize aG g=o at *;obtain⟨n,⟨sn,lo,hi⟩,t,f,s⟩:=g;cases n
 all_goals cases t
 all_goals cases f
 all_goals
  go_enter Tryz.func246,Tryz.ntmps246;go_wp2;go_ret;exact⟨aP (by rw[HO.out];simp),by go_grown⟩

theorem sS {p:Prop}(h:p:=by
 refine(HF.out L[k] ss gc _).mono ?_;rintro e w1 ⟨rfl,hb1⟩;cases hp:p L[k] with
 |true=>
  have HT:Hid (L.any p=true):=by show _=_;rw[HA.out,HN.out,hp];rfl
  clear HN HA;go_wp2;go_ret;exact⟨_,rfl,by rw[HT.out];simp,hbr.trans (hb1.mono s0)⟩
 |false=>
  have HT:Hid (L.any p=(L.drop (k+1)).any p):=by show _=_;rw[HA.out,HN.out,hp];rfl
  have hR':=hR.call hb1;clear HN HA;go_wp2;go_roundw
  case rel=>exact⟨k+1,by omega,by go_num,hR',hbr.trans (hb1.mono s0),HT⟩
  case measure=>simp[intOf];omega):p:=h
theorem o7 (p:Gs->Bool)(ls:oA)(L:List Gs)(lc:Nat)(w:World)(hl:L.length<=9223372036854775807)(hL:GhAt w ls L)
  (hF:∀g ss gc wx,Calls pG 246 #[gv g ss gc] wx λe w'=>e=Rt (Bb (p g))/\Below wx.heap.size wx w'):
  Calls pG 193 #[U ls L.length lc,.func (.func 246) #[] #[]] w λe w'=>∃n:Int,e=Rt (I Y n)/\decide (0<=n)=L.any p/\Below w.heap.size w w':=by
 have HF:=aa hF;clear hF;go_enter Tryz.func193,Tryz.ntmps193;go_wp2;go_loopw [8] (λi wr=>∃k:Nat,k<=L.length/\i=I Y k/\GhAt wr ls L/\Below w.heap.size w wr/\Hid (L.any p=(L.drop k).any p)) (λi _=>L.length - (intOf i).toNat)
 case atStart=>exact⟨0,Nat.zero_le _,rfl,hL,bR _ _,rfl⟩
 case round=>
  obtain⟨k,hk,rfl,hR,hbr,HA⟩:=hrel;by_cases hlt:k < L.length
  ·obtain⟨b,off,rfl,ss,gc,hG⟩:=hR k hlt
   obtain⟨⟨g0,g1,g2,g3,g4,g5,g6⟩,gz⟩:=id hG;have n0:(0:Int)<=(k:Int):=by omega
   have n1:(k:Int) < (L.length:Int):=by omega
   have s0:=hbr.size;have HN:Hid ((L.drop k).any p=(p L[k]||(L.drop (k+1)).any p)):=ld L p k hlt;go_wp2_with (go_at_call 246;fail);exact sS
  ·go_wp2
   go_ret;exact⟨_,rfl,by rw[HA.out,j1 (by omega)];rfl,hbr⟩

theorem mA (p:Gs->Bool)(ls:oA)(L:List Gs)(lc:Nat)(w:World)(hl:L.length<=9223372036854775807)(hL:GhAt w ls L)
  (hF:∀g ss gc wx,Calls pG 246 #[gv g ss gc] wx λe w'=>e=Rt (Bb (p g))/\Below wx.heap.size wx w'):
  Calls pG 141 #[U ls L.length lc,.func (.func 246) #[] #[]] w λe w'=>e=Rt (Bb (L.any p))/\Below w.heap.size w w':=by
 have HF:=aa hF;clear hF;go_enter Tryz.func141,Tryz.ntmps141;go_wp2_with (go_at_call 193;fail);refine(o7 p ls L lc _ hl hL HF.out).mono ?_;rintro e w1 ⟨n,rfl,hn,hb1⟩;go_wp2;go_ret;exact⟨rfl,hb1⟩

theorem mO (ls:oA)(L:List Gs)(lc:Nat)(w:World)(hl:L.length<=9223372036854775807)(hL:GhAt w ls L):
  Calls pG 232 #[U ls L.length lc] w λe w'=>e=Rt (Bb (L.any aG))/\Below w.heap.size w w':=by
 go_enter Tryz.func232,Tryz.ntmps232;go_wp2_with (go_at_call 141;fail);refine(mA aG ls L lc _ hl hL λg ss gc wx=>vh g ss gc wx).mono ?_;rintro e w1 ⟨rfl,hb1⟩;go_wp2;go_ret;exact⟨rfl,hb1⟩

theorem rh (g:Gs)(ss:oA)(gc:Nat)(w:World):
  Calls pG 247 #[gv g ss gc] w λe w'=>e=Rt (Bb (ag g))/\Below w.heap.size w w':=by
 have HO:Hid (ag g=(g.sp.n&& !aG g)):=rfl;have hA:=mO (sO ⟨w.heap.size+1,0,nO⟩) [g] 1;have G0:=GhAt.new1 (w.alloc (Cc #[Bb g.n,Bb g.sp.n,I Y g.sp.lo,I Y g.sp.hi,Bb g.t,Bb g.f,U ss g.s.length gc] 91)) g ss gc;rw[zA] at G0;rw[show [g].any aG=aG g by simp] at hA;have HA:=aa hA;clear hA;generalize aG g=oo at *;generalize ag g=o at *;obtain⟨n,⟨sn,lo,hi⟩,t,f,s⟩:=g;cases sn with
 |true=>
  go_enter Tryz.func247,Tryz.ntmps247;go_wp2_with (go_at_call 232;fail);refine(HA.out _ (by simp) G0).mono ?_;rintro e w1 ⟨rfl,hb1⟩;go_wp2;go_ret;exact⟨aP (by rw[HO.out];simp),Below.trans (by go_grown) (hb1.mono (by simp;omega))⟩
 |false=>
  go_enter Tryz.func247,Tryz.ntmps247;go_wp2;go_ret;exact⟨aP (by rw[HO.out];rfl),by go_grown⟩

theorem mS (p:Gs->Bool)(ls:oA)(L:List Gs)(lc:Nat)(w:World)(hl:L.length<=9223372036854775807)(hL:GhAt w ls L)
  (hF:∀g ss gc wx,Calls pG 247 #[gv g ss gc] wx λe w'=>e=Rt (Bb (p g))/\Below wx.heap.size wx w'):
  Calls pG 193 #[U ls L.length lc,.func (.func 247) #[] #[]] w λe w'=>∃n:Int,e=Rt (I Y n)/\decide (0<=n)=L.any p/\Below w.heap.size w w':=by
 have HF:=aa hF;clear hF;go_enter Tryz.func193,Tryz.ntmps193;go_wp2;go_loopw [8] (λi wr=>∃k:Nat,k<=L.length/\i=I Y k/\GhAt wr ls L/\Below w.heap.size w wr/\Hid (L.any p=(L.drop k).any p)) (λi _=>L.length - (intOf i).toNat)
 case atStart=>exact⟨0,Nat.zero_le _,rfl,hL,bR _ _,rfl⟩
 case round=>
  obtain⟨k,hk,rfl,hR,hbr,HA⟩:=hrel;by_cases hlt:k < L.length
  ·obtain⟨b,off,rfl,ss,gc,hG⟩:=hR k hlt
   obtain⟨⟨g0,g1,g2,g3,g4,g5,g6⟩,gz⟩:=id hG;have n0:(0:Int)<=(k:Int):=by omega
   have n1:(k:Int) < (L.length:Int):=by omega
   have s0:=hbr.size;have HN:Hid ((L.drop k).any p=(p L[k]||(L.drop (k+1)).any p)):=ld L p k hlt;go_wp2_with (go_at_call 247;fail);exact sS
  ·go_wp2
   go_ret;exact⟨_,rfl,by rw[HA.out,j1 (by omega)];rfl,hbr⟩

theorem lg (p:Gs->Bool)(ls:oA)(L:List Gs)(lc:Nat)(w:World)(hl:L.length<=9223372036854775807)(hL:GhAt w ls L)
  (hF:∀g ss gc wx,Calls pG 247 #[gv g ss gc] wx λe w'=>e=Rt (Bb (p g))/\Below wx.heap.size wx w'):
  Calls pG 141 #[U ls L.length lc,.func (.func 247) #[] #[]] w λe w'=>e=Rt (Bb (L.any p))/\Below w.heap.size w w':=by
 have HF:=aa hF;clear hF;go_enter Tryz.func141,Tryz.ntmps141;go_wp2_with (go_at_call 193;fail);refine(mS p ls L lc _ hl hL HF.out).mono ?_;rintro e w1 ⟨n,rfl,hn,hb1⟩;go_wp2;go_ret;exact⟨rfl,hb1⟩

theorem hU (ls:oA)(L:List Gs)(lc:Nat)(w:World)(hl:L.length<=9223372036854775807)(hL:GhAt w ls L):
  Calls pG 233 #[U ls L.length lc] w λe w'=>e=Rt (Bb (L.any ag))/\Below w.heap.size w w':=by
 go_enter Tryz.func233,Tryz.ntmps233;go_wp2_with (go_at_call 141;fail);refine(lg ag ls L lc _ hl hL λg ss gc wx=>rh g ss gc wx).mono ?_;rintro e w1 ⟨rfl,hb1⟩;go_wp2;go_ret;exact⟨rfl,hb1⟩

theorem oP (ls:oA)(L:List Gs)(lc:Nat)(w:World)(hl:L.length<=9223372036854775807)(hL:GhAt w ls L):
  Calls pG 203 #[U ls L.length lc] w λe w'=>e=Rt (Bb (L.any aG&& !L.any ag))/\Below w.heap.size w w':=by
 have H1:=aa (mO ls L lc w hl hL);cases ho:L.any aG with
 |true=>
  rw[ho] at H1;go_enter Tryz.func203,Tryz.ntmps203;go_wp2_with (go_at_call 232;fail);refine H1.out.mono ?_;rintro e w1 ⟨rfl,hb1⟩;go_wp2_with (go_at_call 233;fail);refine(hU ls L lc _ hl (hL.call hb1)).mono ?_;rintro e w2 ⟨rfl,hb2⟩;go_wp2;go_ret;exact⟨rfl,hb1.trans (hb2.mono hb1.size)⟩
 |false=>
  rw[ho] at H1;go_enter Tryz.func203,Tryz.ntmps203;go_wp2_with (go_at_call 232;fail);refine H1.out.mono ?_;rintro e w1 ⟨rfl,hb1⟩;go_wp2;go_ret;exact⟨rfl,hb1⟩

theorem Fl (s t:Sp)(w:World):
  Calls pG 205 #[sv s,sv t] w λe w'=>e=Rt (Tu #[Bb (!(s.n||t.n)&&decide (s.lo < t.hi)),Bb (!(s.n||t.n)&&decide (t.lo<=s.hi))])/\Below w.heap.size w w':=by
 obtain⟨sn,lo,hi⟩:=s;obtain⟨tn,lo',hi'⟩:=t;cases sn with
 |true=>
  go_enter Tryz.func205,Tryz.ntmps205;go_wp2
  go_ret2
  exact⟨rfl,by go_grown⟩
 |false=>
  cases tn with
  |true=>
   go_enter Tryz.func205,Tryz.ntmps205;go_wp2
   go_ret2
   exact⟨rfl,by go_grown⟩
  |false=>
   go_enter Tryz.func205,Tryz.ntmps205;go_wp2
   go_quiet (fail)
   go_wp2
   go_ret2
   exact⟨gr (by simp) (by simp),below_drewN (by go_grown) _⟩

theorem iX (y n:Bool)(w:World):
  Calls pG 204 #[Bb y,Bb n] w λe w'=>e=Rt (gv ⟨false,⟨true,0,0⟩,y,n,[]⟩ nO 0)/\Below w.heap.size w w':=by
 go_enter Tryz.func204,Tryz.ntmps204;go_wp2
 go_returns
 exact⟨rfl,by go_grown⟩
end
section
open Go.RowKit
attribute [local go_sem ↓] Go.wp_at_zero Go.wp_at_succ
theorem il (sb:Nat)(at_:Int)(cs:List Value)(w:World)(h:Cells w sb cs)(h9:cs[9]? =sO (I Y at_))(h0:0<=at_)(h1:at_<=1000):
  Calls pG 92 #[Pp (sO ⟨sb,0,nO⟩)] w λe w'=>e=Rt (I Y (at_+1))/\w'=w:=by
 have c9:=h.1 9 _ h9;clear h h9;go_enter Tryz.func92,Tryz.ntmps92;go_wp2;go_ret;exact⟨bG (by go_num),rfl⟩
theorem yD {s:Sp}(hs:s.Ok):bI s=(if (if s.lo=0 then au s ⟨false,1,2147483647⟩ else s).hi=0 then au (if s.lo=0 then au s ⟨false,1,2147483647⟩ else s) ⟨false,-2147483648,-1⟩ else(if s.lo=0 then au s ⟨false,1,2147483647⟩ else s)):=by
 obtain⟨⟨a1,a2⟩,⟨a3,a4⟩,a5,a6⟩:=hs;obtain⟨n,lo,hi⟩:=s;simp only at a1 a2 a3 a4 a5 a6;cases n with
 |true=>
  obtain⟨rfl,rfl⟩:=a5 rfl;rfl
 |false=>
  by_cases h1:lo=0
  ·subst h1
   by_cases h2:hi=0
   ·subst h2;rfl
   ·have e1:min hi 2147483647=hi:=by omega
    have e2:max (0:Int) 1=1:=by omega
    have e3:¬hi < 1:=by omega
    simp[bI,au,h2,e1,e2,e3]
  ·by_cases h2:hi=0
   ·subst h2
    have e1:min (0:Int) (-1)= -1:=by omega
    have e2:max lo (-2147483648)=lo:=by omega
    have e3:¬ -1 < lo:=by omega
    simp[bI,au,h1,e1,e2,e3]
   ·have e3:¬hi < lo:=by omega
    simp[bI,h1,h2,e3]
theorem If {s t:Sp}(hs:s.Ok)(ht:t.Ok):(au s t).Ok:=by
 obtain⟨⟨a1,a2⟩,⟨a3,a4⟩,a5,a6⟩:=hs;obtain⟨⟨b1,b2⟩,⟨b3,b4⟩,b5,b6⟩:=ht;unfold au;split
 ·exact fC
 ·rename_i h
  simp only[Bool.or_eq_true,decide_eq_true_eq,not_or] at h;exact ii (by omega) (by omega) (by omega)
theorem Bx {s t:Sp}(hs:s.Ok)(ht:t.Ok):bl s t=0:=ckSps_ok.2 ⟨hs,ht⟩
theorem sI (s:Sp)(w:World)(hs:s.Ok):
  Calls pG 157 #[sv s] w λe w'=>e=Rt (sv (bI s))/\Below w.heap.size w w':=by
 rw[yD hs];have HM:Hid (∀(a b:Sp) wx,a.Ok->b.Ok->Calls pG 159 #[sv a,sv b] wx λe w'=>e=Rt (Tu #[sv (au a b),I Y 0])/\Below wx.heap.size wx w'):=λa b wx ha hb=>by
  have:=ix a b wx;rw[Bx ha hb] at this;exact this
 have B0:Below w.heap.size w ((w.alloc (Cc #[Bb s.n,I Y s.lo,I Y s.hi] 89)).alloc (Cc #[Bb false,I Y 0,I Y 0] 89)):=by go_grown
 have A0:Cells ((w.alloc (Cc #[Bb s.n,I Y s.lo,I Y s.hi] 89)).alloc (Cc #[Bb false,I Y 0,I Y 0] 89)) w.heap.size [Bb s.n,I Y s.lo,I Y s.hi]:=(Cells.new w 89 [Bb s.n,I Y s.lo,I Y s.hi]).call (by go_grown);have R0:Cells ((w.alloc (Cc #[Bb s.n,I Y s.lo,I Y s.hi] 89)).alloc (Cc #[Bb false,I Y 0,I Y 0] 89)) (w.heap.size+1) [Bb false,I Y 0,I Y 0]:=by
  have:=Cells.new (w.alloc (Cc #[Bb s.n,I Y s.lo,I Y s.hi] 89)) 89 [Bb false,I Y 0,I Y 0];rw[zA] at this;exact this
 have HK1:Hid ((⟨false,1,2147483647⟩:Sp).Ok):=ii (by omega) (by omega) (by omega);have HK2:Hid ((⟨false,-2147483648,-1⟩:Sp).Ok):=ii (by omega) (by omega) (by omega);obtain⟨m1,hm1⟩:∃q,q=(if s.lo=0 then au s ⟨false,1,2147483647⟩ else s):=⟨_,rfl⟩;rw[<-hm1];have HO1:Hid (m1.Ok):=by
  show m1.Ok;rw[hm1];split
  ·exact If hs HK1.out
  ·exact hs
 have HM1:=aa hm1;clear hm1;obtain⟨m2,hm2⟩:∃q,q=(if m1.hi=0 then au m1 ⟨false,-2147483648,-1⟩ else m1):=⟨_,rfl⟩;rw[<-hm2];have HM2:=aa hm2;have HS:=aa hs;clear hm2 hs;go_enter Tryz.func157,Tryz.ntmps157
 go_upto_if 5 with fail
 generalize ((w.alloc (Cc #[Bb s.n,I Y s.lo,I Y s.hi] 89)).alloc (Cc #[Bb false,I Y 0,I Y 0] 89))=w0 at *
 go_cut [] (λwy=>Cells wy w.heap.size [Bb m1.n,I Y m1.lo,I Y m1.hi]/\Cells wy (w.heap.size+1) [Bb false,I Y 0,I Y 0]/\Below w.heap.size w wy)
 case first=>
  have a0:=A0.1 0 _ rfl;have a1:=A0.1 1 _ rfl;have a2:=A0.1 2 _ rfl;by_cases e:s.lo=0
  ·have e1:=HM1.out
   rw[if_pos e] at e1;have E1:=aa e1;have eb:(s.lo==0)=true:=by simpa using e
   clear e1 e;have HC:=aa (HM.out s ⟨false,1,2147483647⟩ w0 HS.out HK1.out);rw[<-E1.out] at HC;go_wp2_with (go_at_call 159;fail);refine HC.out.mono ?_;rintro e w1 ⟨rfl,hb1⟩;have A1:=A0.call hb1;have R1:=R0.call hb1;have B1:=B0.trans (hb1.mono B0.size);clear a0 a1 a2 hb1 A0 R0 B0 HC;have b0:=A1.1 0 _ rfl;have b1:=A1.1 1 _ rfl;have b2:=A1.1 2 _ rfl;have f0:=A1.2.2 0;have f1:=A1.2.2 1;have f2:=A1.2.2 2;go_wp2_with fail;go_meet;exact⟨((A1.put 0 (by simp) _).put 1 (by simp) _).put 2 (by simp) _,((R1.far (by simp only;omega) _).far (by simp only;omega) _).far (by simp only;omega) _,((B1.setCell (lR _) _).setCell (lR _) _).setCell (lR _) _⟩
  ·have e1:=HM1.out
   rw[if_neg e] at e1;have eb:(s.lo==0)=false:=by simpa using e
   clear e;subst e1;go_wp2_with fail;go_meet;exact⟨A0,R0,B0⟩
 obtain⟨A1,R1,B1⟩:=hcut;clear A0 R0 B0;generalize wc=w1 at *;clear wc;have a0:=A1.1 0 _ rfl;have a1:=A1.1 1 _ rfl;have a2:=A1.1 2 _ rfl
 go_upto_if 14 with fail
 go_cut [] (λwy=>Cells wy w.heap.size [Bb m2.n,I Y m2.lo,I Y m2.hi]/\Cells wy (w.heap.size+1) [Bb false,I Y 0,I Y 0]/\Below w.heap.size w wy)
 case first=>
  by_cases e:m1.hi=0
  ·have e1:=HM2.out
   rw[if_pos e] at e1;have E1:=aa e1;have eb:(m1.hi==0)=true:=by simpa using e
   clear e1 e;have HC:=aa (HM.out m1 ⟨false,-2147483648,-1⟩ w1 HO1.out HK2.out);rw[<-E1.out] at HC;go_wp2_with (go_at_call 159;fail);refine HC.out.mono ?_;rintro e w2 ⟨rfl,hb2⟩;have A2:=A1.call hb2;have R2:=R1.call hb2;have B2:=B1.trans (hb2.mono B1.size);clear a0 a1 a2 hb2 A1 R1 B1 HC;have b0:=A2.1 0 _ rfl;have b1:=A2.1 1 _ rfl;have b2:=A2.1 2 _ rfl;have f0:=A2.2.2 0;have f1:=A2.2.2 1;have f2:=A2.2.2 2;go_wp2_with fail;go_meet;exact⟨((A2.put 0 (by simp) _).put 1 (by simp) _).put 2 (by simp) _,((R2.far (by simp only;omega) _).far (by simp only;omega) _).far (by simp only;omega) _,((B2.setCell (lR _) _).setCell (lR _) _).setCell (lR _) _⟩
  ·have e1:=HM2.out
   rw[if_neg e] at e1;have eb:(m1.hi==0)=false:=by simpa using e
   clear e;subst e1;go_wp2_with fail;go_meet;exact⟨A1,R1,B1⟩
 obtain⟨A2,R2,B2⟩:=hcut;clear A1 R1 B1 a0 a1 a2;generalize wc=w2 at *;clear wc;have b0:=A2.1 0 _ rfl;have b1:=A2.1 1 _ rfl;have b2:=A2.1 2 _ rfl;have d0:=R2.1 0 _ rfl;have d1:=R2.1 1 _ rfl;have d2:=R2.1 2 _ rfl;have f0:=R2.2.2 0;have f1:=R2.2.2 1;have f2:=R2.2.2 2;go_wp2;refine bodyPost_ret (v:=sv m2) (by simp[results,Tryz.results157,go_sem,d0,d1,d2]) rfl ⟨rfl,?_⟩;exact((B2.setCell (by simp only;omega) _).setCell (by simp only;omega) _).setCell (by simp only;omega) _
end
end Go.Proofs.YtmapdpcfanecdabGreatDoor
