import Derived.Test.YtmapdpcfanecdabGreatDoorM34
import Derived.Lib.AppendZeros
import Derived.Laws.AppendOwn
open Go.Ending renaming returned→Rt
open Go.IntKind renaming i64→Y
open Go.Obj renaming cells→Cc
open Go.Proofs.Tryz renaming prog→pG
open Go.RowKit.Below renaming refl→bR
open Go.Value renaming agg→Ag,bool→Bb,int→I,slice→U
open List renaming length_append→j0,length_map→j6,take_length→j4,take_of_length_le→j5
open Nat renaming le_refl→lR,zero_le→j3
open Option renaming none→nO,some→sO
set_option linter.unusedSimpArgs false
set_option linter.unusedVariables false
set_option maxHeartbeats 8000000
set_option maxRecDepth 10000
namespace Go.Proofs.YtmapdpcfanecdabGreatDoor
section
open Go.RowKit
attribute [local go_sem ↓] Go.wp_at_zero Go.wp_at_succ
theorem ni (w:World):Calls pG 77 #[] w λe w'=>e=Rt (Ag #[Bb false,Bb true,I Y 0,I Y 0,Bb false,Bb false,U nO 0 0])∧Below w.heap.size w w':=by
 go_enter Tryz.func77,Tryz.ntmps77
 go_wp2
 refine bodyPost_ret (v:=Ag #[Bb false,Bb true,I Y 0,I Y 0,Bb false,Bb false,U nO 0 0]) (by simp[results,Tryz.results77,go_sem]) rfl ⟨rfl,by go_grown⟩
theorem BS (a b:List Int)(ss:Option Addr)(gc:Nat)(st:Option Addr)(hc:Nat)(w:World)(ha:a.length≤maxLen)(hb:b.length≤maxLen)(h1:IntsAt w ss a)(h2:IntsAt w st b):
  Calls pG 216 #[U ss a.length gc,U st b.length hc] w λe w'=>e=Rt (Bb (decide (a=b)))∧Below w.heap.size w w':=by
 have hm:maxLen≤9223372036854775807:=by decide
 rcases h1 with rfl|⟨b1,o1,rfl,hb1,hc1⟩
 ·refine(Tryz.slices_Equal_int_empty ss st gc b.length hc w (by omega)).mono ?_
  rintro e w' ⟨rfl,rfl⟩
  refine⟨aI ?_,bR _ _⟩
  cases b<;>simp
 ·rcases h2 with rfl|⟨b2,o2,rfl,hb2,hc2⟩
  ·by_cases h0:a.length=0
   ·have e0:a=[]:=List.eq_nil_of_length_eq_zero h0
    subst e0
    refine(Tryz.slices_Equal_int_empty (sO ⟨b1,o1,nO⟩) st gc 0 hc w (by omega)).mono ?_
    rintro e w' ⟨rfl,rfl⟩
    exact⟨rfl,bR _ _⟩
   ·have e1:decide (a=[])=false:=by
     have:a≠[]:=λe=>h0 (by rw[e];rfl)
     simpa using this
    rw[e1]
    have e2:((a.length:Int)!=0)=true:=by simp;exact λe=>h0 (by rw[e];rfl)
    clear e1 h0 hc1 hb1
    go_enter Tryz.func216,Tryz.ntmps216
    go_wp2
    go_ret
    exact⟨rfl,bR _ _⟩
  ·refine(Tryz.slices_Equal_int b1 o1 a.length gc b2 o2 b.length hc a b w (lR _) (lR _) (by omega) (by omega) (λj hj=>by rw[hc1 j hj];simp[List.getD,hj]) (λj hj=>by rw[hc2 j hj];simp[List.getD,hj])).mono ?_
   rintro e w' ⟨rfl,q,rfl⟩
   refine⟨aI ?_,below_drewN (bR _ _) q⟩
   rw[j4,j4]
   by_cases h:a=b
   ·simp[h]
   ·simp[h]
theorem mB (g:Gs)(ss:Option Addr)(gc:Nat)(h:Gs)(st:Option Addr)(hc:Nat)(w:World)(hs:IntsAt w ss g.s)(ht:IntsAt w st h.s)(h1:g.s.length≤maxLen)(h2:h.s.length≤maxLen):
  Calls pG 178 #[gv g ss gc,gv h st hc] w λe w'=>e=Rt (Bb (dC g h))∧Below w.heap.size w w':=by
 have B0:Below w.heap.size w ((w.alloc (Cc #[Bb g.n,Bb g.sp.n,I Y g.sp.lo,I Y g.sp.hi,Bb g.t,Bb g.f,U ss g.s.length gc] 91)).alloc (Cc #[Bb h.n,Bb h.sp.n,I Y h.sp.lo,I Y h.sp.hi,Bb h.t,Bb h.f,U st h.s.length hc] 91)):=by go_grown
 have HE:=aa (BS g.s h.s ss gc st hc ((w.alloc (Cc #[Bb g.n,Bb g.sp.n,I Y g.sp.lo,I Y g.sp.hi,Bb g.t,Bb g.f,U ss g.s.length gc] 91)).alloc (Cc #[Bb h.n,Bb h.sp.n,I Y h.sp.lo,I Y h.sp.hi,Bb h.t,Bb h.f,U st h.s.length hc] 91)) h1 h2 (hs.below B0 (lR _)) (ht.below B0 (lR _)))
 have HR:Hid (dC g h=(g.n==h.n&&(@decide _ (g.sp.dq h.sp)&&(g.t==h.t&&(g.f==h.f&&decide (g.s=h.s)))))):=rfl
 generalize dC g h=r at HR ⊢
 generalize decide (g.s=h.s)=q at HR HE
 clear hs ht
 by_cases e1:g.n=h.n
 ·by_cases e2:g.sp=h.sp
  ·by_cases e3:g.t=h.t
   ·by_cases e4:g.f=h.f
    ·have HQ:Hid (r=q):=by show _=_;rw[HR.out,e1,e2,e3,e4];simp
     clear HR
     obtain⟨n,sp,t,f,sl⟩:=g
     obtain⟨n',sp',t',f',sl'⟩:=h
     simp only at e1 e2 e3 e4 HE h1 h2
     subst e1 e2 e3 e4
     go_enter Tryz.func178,Tryz.ntmps178
     go_wp2_with (go_at_call 216;fail)
     refine HE.out.mono ?_
     rintro e w1 ⟨rfl,hb1⟩
     go_wp2
     go_ret
     exact⟨aI HQ.out.symm,Below.trans (by go_grown) (hb1.mono (by simp;omega))⟩
    ·have HQ:Hid (r=false):=by show _=_;rw[HR.out,e1,e2,e3];simp[e4]
     have d4:(g.f==h.f)=false:=by simpa using e4
     clear HR HE e4
     obtain⟨n,sp,t,f,sl⟩:=g
     obtain⟨n',sp',t',f',sl'⟩:=h
     simp only at e1 e2 e3 d4 h1 h2
     subst e1 e2 e3
     go_enter Tryz.func178,Tryz.ntmps178
     go_wp2
     go_ret
     exact⟨aI HQ.out.symm,by go_grown⟩
   ·have HQ:Hid (r=false):=by show _=_;rw[HR.out,e1,e2];simp[e3]
    have d3:(g.t==h.t)=false:=by simpa using e3
    clear HR HE e3
    obtain⟨n,sp,t,f,sl⟩:=g
    obtain⟨n',sp',t',f',sl'⟩:=h
    simp only at e1 e2 d3 h1 h2
    subst e1 e2
    go_enter Tryz.func178,Tryz.ntmps178
    go_wp2
    go_ret
    exact⟨aI HQ.out.symm,by go_grown⟩
  ·have HQ:Hid (r=false):=by show _=_;rw[HR.out,e1];simp[e2]
   clear HR HE
   obtain⟨n,⟨sn,lo,hi⟩,t,f,sl⟩:=g
   obtain⟨n',⟨sn',lo',hi'⟩,t',f',sl'⟩:=h
   simp only at e1 e2 h1 h2
   subst e1
   by_cases a1:sn=sn'
   ·subst a1
    by_cases a2:lo=lo'
    ·subst a2
     have a3:¬hi=hi':=λe=>e2 (by rw[e])
     clear e2
     go_enter Tryz.func178,Tryz.ntmps178
     go_wp2
     go_ret
     exact⟨aI HQ.out.symm,by go_grown⟩
    ·clear e2
     go_enter Tryz.func178,Tryz.ntmps178
     go_wp2
     go_ret
     exact⟨aI HQ.out.symm,by go_grown⟩
   ·clear e2
    go_enter Tryz.func178,Tryz.ntmps178
    go_wp2
    go_ret
    exact⟨aI HQ.out.symm,by go_grown⟩
 ·have HQ:Hid (r=false):=by show _=_;rw[HR.out];simp[e1]
  have d1:(g.n==h.n)=false:=by simpa using e1
  clear HR HE e1
  obtain⟨n,sp,t,f,sl⟩:=g
  obtain⟨n',sp',t',f',sl'⟩:=h
  simp only at d1 h1 h2
  go_enter Tryz.func178,Tryz.ntmps178
  go_wp2
  go_ret
  exact⟨aI HQ.out.symm,by go_grown⟩

theorem li (g:Gs)(ss:Option Addr)(gc:Nat)(w:World)(hs:IntsAt w ss g.s)(h1:g.s.length≤maxLen):
  Calls pG 139 #[gv g ss gc] w λe w'=>e=Rt (Bb (cM g))∧Below w.heap.size w w':=by
 have B0:Below w.heap.size w (w.alloc (Cc #[Bb g.n,Bb g.sp.n,I Y g.sp.lo,I Y g.sp.hi,Bb g.t,Bb g.f,U ss g.s.length gc] 91)):=by go_grown
 have G0:=GuAt.new w g ss gc
 have I0:=hs.below B0 (lR _)
 have HN:=aa ni
 have HI:Hid (∀wx,IntsAt wx ss g.s→Calls pG 178 #[gv g ss gc,Ag #[Bb false,Bb true,I Y 0,I Y 0,Bb false,Bb false,U nO 0 0]] wx λe w'=>e=Rt (Bb (dC g bX))∧Below wx.heap.size wx w'):=λwx hx=>mB g ss gc bX nO 0 wx hx (.inl rfl) h1 (j3 _)
 have HR:Hid (cM g= !dC g bX):=rfl
 generalize cM g=r at HR ⊢
 generalize dC g bX=q at HR HI
 clear hs
 go_enter Tryz.func139,Tryz.ntmps139
 go_upto_region 1 with fail
 generalize w.alloc (Cc #[Bb g.n,Bb g.sp.n,I Y g.sp.lo,I Y g.sp.hi,Bb g.t,Bb g.f,U ss g.s.length gc] 91)=w1 at *
 have HKZ:Hid (∀wx,Below w1.heap.size w1 wx→(wx.cell? ⟨w.heap.size,0,nO⟩=sO (Bb g.n)∧wx.cell? ⟨w.heap.size,0+1,nO⟩=sO (Bb g.sp.n)∧wx.cell? ⟨w.heap.size,0+2,nO⟩=sO (I Y g.sp.lo)∧wx.cell? ⟨w.heap.size,0+3,nO⟩=sO (I Y g.sp.hi)∧wx.cell? ⟨w.heap.size,0+4,nO⟩=sO (Bb g.t)∧wx.cell? ⟨w.heap.size,0+5,nO⟩=sO (Bb g.f)∧wx.cell? ⟨w.heap.size,0+6,nO⟩=sO (U ss g.s.length gc))):=λwx hx=>(G0.call hx).1
 have HD:Below w1.heap.size w1 w1.drew:=(bR _ _).drew
 refine au (S:=(λwx=>(wx.cell? ⟨w.heap.size,0,nO⟩=sO (Bb g.n)∧wx.cell? ⟨w.heap.size,0+1,nO⟩=sO (Bb g.sp.n)∧wx.cell? ⟨w.heap.size,0+2,nO⟩=sO (I Y g.sp.lo)∧wx.cell? ⟨w.heap.size,0+3,nO⟩=sO (I Y g.sp.hi)∧wx.cell? ⟨w.heap.size,0+4,nO⟩=sO (Bb g.t)∧wx.cell? ⟨w.heap.size,0+5,nO⟩=sO (Bb g.f)∧wx.cell? ⟨w.heap.size,0+6,nO⟩=sO (U ss g.s.length gc)))) [] (by kernel_rfl) (HKZ.out _ HD) (λhHeld=> ?_)
 refine vZ 0 ?_ ?_
 refine an (i:=1) rfl (by kernel_rfl) (λK hK=> ?_)
 go_simp
 go_at_call 77
 refine(HN.out _).mono ?_
 rintro e w2 ⟨rfl,hb2⟩
 have HB2:Below w1.heap.size w1 w2:=HD.trans (hb2.mono HD.size)
 go_wp2_with fail
 refine hK.out _ _ (HKZ.out _ HB2) (λhHeld=> ?_)
 clear hK K
 refine sm ?_
 refine an (i:=2) rfl (by kernel_rfl) (λK hK=> ?_)
 go_simp
 go_at_call 178
 refine(HI.out _ (I0.below HB2 (lR _))).mono ?_
 rintro e w3 ⟨rfl,hb3⟩
 have HB3:Below w1.heap.size w1 w3:=HB2.trans (hb3.mono HB2.size)
 go_wp2_with fail
 refine hK.out _ _ (HKZ.out _ HB3) (λhHeld=> ?_)
 clear hK K
 refine sm ?_
 refine vZ 3 ?_ ?_
 refine vZ 4 ?_ ?_
 refine aq (by kernel_rfl) ?_ _
 go_wp2
 go_ret
 exact⟨aI HR.out.symm,B0.trans (HB3.mono B0.size)⟩
theorem Fc (n:Nat)(w:World)(hn:n≤1000):
  Calls pG 223 #[U nO 0 0,I Y (n:Int)] w λe w'=>(∃rs rc,e=Rt (U rs 0 rc)∧w'.ownsRow w.heap.size 91 7 (U rs 0 rc) 0 [])∧Below w.heap.size w w':=by
 obtain⟨ti,hi,hz0,hz1,hz2⟩:=info_parts Tryz.info_guess
 cases n with
 |zero=>
  go_enter Tryz.func223,Tryz.ntmps223
  go_wp2
  go_ret
  exact⟨⟨nO,0,rfl,rfl,.inl ⟨rfl,rfl⟩⟩,bR _ _⟩
 |succ m=>
  have happ:=Lib.run_append_nil_zeros (P:=pG) w 25 3 25 91 ti (Ag #[Bb false,Bb false,I Y 0,I Y 0,Bb false,Bb false,U nO 0 0]) .i64 .i64 Tryz.underlying25 Tryz.underlying3 hi hz0 (m+1) (by omega) (by rw[hz1];omega) (by omega) (by rw[hz2];omega)
  have hge:=grownCap_ge w (m+1) 0 91
  have hle:=grownCap_le_maxLen w (m+1) 0 91 (by unfold maxLen;omega)
  have HA:=aa happ
  have HO:Hid (∀cap,m+1≤cap→cap≤maxLen→(w.drew.alloc (Cc (Builtin.zeroCells (Value.cells (Ag #[Bb false,Bb false,I Y 0,I Y 0,Bb false,Bb false,U nO 0 0])) (m+1)++Builtin.zeroCells (Value.cells (Ag #[Bb false,Bb false,I Y 0,I Y 0,Bb false,Bb false,U nO 0 0])) (cap - (m+1))) 91)).ownsRow w.heap.size 91 7 (U (sO ⟨w.heap.size,0,nO⟩) 0 cap) 0 []):=λcap h1 h2=>by
   refine World.ownsRow_made w.drew _ cap (lR _) h2 ?_
   rw[Array.size_append,size_zeroCells,size_zeroCells]
   have:(Value.cells (Ag #[Bb false,Bb false,I Y 0,I Y 0,Bb false,Bb false,U nO 0 0])).size=7:=rfl
   rw[this,←Nat.add_mul]
   congr 1
   omega
  have hnp:(0:Int) < ((m+1:Nat):Int):=by omega
  have hnn:¬((m+1:Nat):Int) < 0:=by omega
  generalize grownCap w (m+1) 0 91=cp at *
  clear happ
  generalize hN:m+1=N at *
  clear hN
  go_enter Tryz.func223,Tryz.ntmps223
  go_wp2_with (at_builtin;refine Lib.wpList_append_run _ rfl _ _ _ _ rfl _ _ rfl rfl _ _ HA.out ?_)
  have h0c:(0:Int)≤(cp:Int):=by omega
  go_wp2
  go_ret
  refine⟨⟨_,_,rfl,HO.out cp hge hle⟩,?_⟩
  exact((bR _ w).drew).alloc (by simp) _

def pI (w':World)(e:Ending)(l:List Gs):Prop:=∃rs rc,e=Rt (U rs l.length rc)∧GsAt w' rs l∧l.length≤rc∧rc≤maxLen
theorem rN (ls:Option Addr)(lc:Nat)(L:List (List Gs))(w:World)(h:RowsAt w ls L)(hl:L.length≤1000)(ht:L.flatten.length≤1000):
  Calls pG 192 #[U ls L.length lc] w λe w'=>pI w' e L.flatten∧Below w.heap.size w w':=by
 obtain⟨ti,hi,hz0,hz1,hz2⟩:=info_parts Tryz.info_guess
 have HG:=aa Fc
 obtain⟨N,eN⟩:∃N,N=L.flatten.length:=⟨_,rfl⟩
 have HLE:Hid (∀k,(L.take k).flatten.length≤1000):=λk=>by
  have h1:L.flatten=(L.take k).flatten++(L.drop k).flatten:=by rw[←List.flatten_append,List.take_append_drop]
  have h2:=congrArg List.length h1
  rw[j0] at h2
  omega
 rw[←eN] at ht
 have EN:=aa eN
 clear eN
 go_enter Tryz.func192,Tryz.ntmps192
 go_wp2
 go_loopw [3,11] (λz i wr=>∃k:Nat,k≤L.length∧i=I Y k∧z=I Y ((L.take k).flatten.length:Int)∧wr=w) (λ_ i _=>L.length - (intOf i).toNat)
 case atStart=>exact⟨0,j3 _,rfl,by simp,rfl⟩
 case round=>
  obtain⟨k,hk,rfl,rfl,hwr⟩:=hrel
  rw[hwr]
  clear hwr
  by_cases hlt:k < L.length
  ·have n0:(0:Int)≤(k:Int):=by omega
   have n1:(k:Int) < (L.length:Int):=by omega
   obtain⟨b,off,rfl,zb,rs,rc,C1,k1,m1,J1⟩:=h k hlt
   have HF:=aa (oe L k hlt)
   have hle:=HLE.out (k+1)
   rw[HF.out,j0] at hle
   obtain⟨z0,e0⟩:∃z0,z0=(L.take k).flatten.length:=⟨_,rfl⟩
   obtain⟨z1,e1⟩:∃z1,z1=L[k].length:=⟨_,rfl⟩
   rw[←e0,←e1] at hle
   rw[←e1] at C1
   rw[←e0]
   have E0:=aa e0
   have E1:=aa e1
   clear e0 e1 J1 k1
   have hnn:¬((z0:Int)+(z1:Int)) < 0:=by omega
   go_wp2
   go_roundw
   case rel=>exact⟨k+1,by omega,by go_num,by rw[HF.out,j0,←E0.out,←E1.out];first|rfl|go_num|(simp;omega),by first|rfl|trivial⟩
   case measure=>simp[intOf];omega
  ·have n1:¬(k:Int) < (L.length:Int):=by omega
   have et:L.take k=L:=j5 (by omega)
   rw[et,←EN.out]
   go_wp2_with (go_at_call 223;fail)
   refine(HG.out _ w ht).mono ?_
   rintro e w1 ⟨⟨rs0,rc0,rfl,O1⟩,hb1⟩
   have C1:CRow w1 w.heap.size (U rs0 0 rc0) []:=⟨O1,λx hx=>by simp at hx⟩
   clear O1 HG et
   go_wp2
   go_loopw [6,27] (λv i wy=>∃(k:Nat) (rs:Option Addr) (rc:Nat) (l:List Gc),k≤L.length∧i=I Y k∧v=U rs l.length rc∧Below w.heap.size w wy∧Hid (l.map Gc.g=(L.take k).flatten)∧CRow wy w.heap.size (U rs l.length rc) l) (λ_ i _=>L.length - (intOf i).toNat)
   case atStart=>exact⟨0,rs0,rc0,[],j3 _,rfl,rfl,hb1,rfl,C1⟩
   case round=>
    clear C1 hb1
    obtain⟨k2,rs,rc,l,hk2,rfl,rfl,hby,HE,CL⟩:=hrel
    have LL:Hid (l.length=(L.take k2).flatten.length):=by show _=_;rw[←HE.out,j6]
    by_cases hlt2:k2 < L.length
    ·have n0:(0:Int)≤(k2:Int):=by omega
     have n2:(k2:Int) < (L.length:Int):=by omega
     obtain⟨b,off,rfl,zb,r1,rc1,D1,k1,m1,J1⟩:=h k2 hlt2
     obtain⟨lr,elr,hnr,hnnr,hgr,hlr⟩:=J1.gcsTo hby
     have D1':wr.cell? ⟨b,off+k2,nO⟩=sO (U r1 L[k2].length rc1):=by rw[hby.cell (by simp only;exact zb)];exact D1
     have hsum:l.length+L[k2].length≤1000:=by have h1:=HLE.out (k2+1);rw[oe L k2 hlt2,j0] at h1;have:=LL.out;omega
     have HLL:Hid (lr.length=L[k2].length):=by show _=_;rw[←elr,j6]
     have HNR:=aa hnr
     have HLR:=aa elr
     clear D1 J1 hnr elr
     go_wp2_with (at_builtin;refine cj _ rfl _ _ 25 rfl w.heap.size 91 ti (Ag #[Bb false,Bb false,I Y 0,I Y 0,Bb false,Bb false,U nO 0 0]) 7 64 Tryz.underlying25 hi hz0 hz1 hz2 rfl (by decide) _ _ _ rfl CL.1 r1 L[k2].length rc1 (aH lr) rfl hlr hnnr ?qb2 (wU _) ?qb4 ?qb5 ?qb6 ?_)
     (try (case qb2=>exact HNR.out))
     case qb4=>unfold maxLen;omega
     case qb5=>omega
     (try (case qb6=>exact hby.size))
     intro v1 w5 hown5 hgrow5 hat5
     have hb5:Below w.heap.size w w5:=hby.grown hgrow5 hby.size (λk hk=>(bo CL.1 hk).2)
     have CR5:CRow w5 w.heap.size v1 (l++lr):=CL.grown hgr (by rw[HLL.out];exact hown5) hgrow5
     obtain⟨rs',rc',rfl,-,-,-,-⟩:=CR5.at
     clear hown5 hgrow5 hat5 HNR hnnr hgr hlr D1' CL
     go_wp2
     go_roundw
     case rel=>exact⟨k2+1,rs',rc',l++lr,by omega,by go_num,by first|rfl|(rw[j0]),hb5,by show _=_;rw[List.map_append,HE.out,HLR.out,oe _ _ hlt2],CR5⟩
     case measure=>simp[intOf];omega
    ·have n2:¬(k2:Int) < (L.length:Int):=by omega
     have et:L.take k2=L:=j5 (by omega)
     obtain⟨ra,rb,e0,kv1,kv2,GA,-⟩:=CL.at
     cases e0
     rw[HE.out,et] at GA
     have LF:Hid (l.length=L.flatten.length):=by show _=_;rw[LL.out,et]
     go_wp2
     go_ret
     refine⟨⟨rs,rc,by show Ending.returned (U rs l.length rc)=_;rw[LF.out],GA,by rw[←LF.out];exact kv1,kv2⟩,hby⟩

theorem Eu (w:World){vs rs:Option Addr}{vc rc:Nat}{a b:List Gs}(h1:GsAt w vs a)(k1:a.length≤vc)(m1:vc≤maxLen)(h2:GsAt w rs b)(k2:b.length≤rc)(m2:rc≤maxLen):
  RowsAt (w.alloc (Cc #[U vs a.length vc,U rs b.length rc] 25)) (sO ⟨w.heap.size,0,nO⟩) [a,b]:=by
 intro i hi
 match i,hi with
 |0,_=>exact⟨w.heap.size,0,rfl,by simp,vs,vc,by simp[go_sem],k1,m1,h1.alloc _⟩
 |1,_=>exact⟨w.heap.size,0,rfl,by simp,rs,rc,by simp[go_sem],k2,m2,h2.alloc _⟩
 |i+2,h=>simp at h;omega
theorem pE (x:Pic)(vs:Option Addr)(vc:Nat)(fs:Option Addr)(fc:Nat)(w:World)(h:PicAt w x vs fs)(hvc:x.vars.length≤vc)(hvm:vc≤maxLen)(hl:x.flds.length≤1000)(ha:(bJ x).length≤1000):
  Calls pG 138 #[xv x vs vc fs fc] w λe w'=>pI w' e (bJ x)∧Below w.heap.size w w':=by
 have B0:Below w.heap.size w (w.alloc (Cc #[Bb x.none,U vs x.vars.length vc,U fs x.flds.length fc] 28)):=by go_grown
 have A0:=XAt.new w x vs vc fs fc
 have PV:=h.1.below B0 (lR _)
 have PF:=h.2.below B0 (lR _)
 have hf:x.flds.flatten.length≤1000:=by unfold bJ at ha;rw[j0] at ha;omega
 obtain⟨fl,efl⟩:∃fl,fl=x.flds.flatten:=⟨_,rfl⟩
 have HC1:Hid (∀wx,RowsAt wx fs x.flds→Calls pG 192 #[U fs x.flds.length fc] wx λe w'=>pI w' e fl∧Below wx.heap.size wx w'):=λwx hx=>by rw[efl];exact rN fs fc x.flds wx hx hl hf
 have EA:[x.vars,fl].flatten=bJ x:=by unfold bJ;rw[efl];simp
 have HC2:Hid (∀wx a,RowsAt wx (sO a) [x.vars,fl]→Calls pG 192 #[U (sO a) 2 2] wx λe w'=>pI w' e (bJ x)∧Below wx.heap.size wx w'):=λwx a hx=>by rw[←EA];exact rN (sO a) 2 [x.vars,fl] wx hx (by simp) (by rw[EA];exact ha)
 clear efl EA hf
 clear h ha
 go_enter Tryz.func138,Tryz.ntmps138
 go_upto_region 1 with fail
 generalize w.alloc (Cc #[Bb x.none,U vs x.vars.length vc,U fs x.flds.length fc] 28)=w1 at *
 obtain⟨⟨a0,a1,a2⟩,az,-⟩:=id A0
 have HKZ:Hid (∀wx,Below w1.heap.size w1 wx→wx.cell? ⟨w.heap.size,1,nO⟩=sO (U vs x.vars.length vc)∧wx.cell? ⟨w.heap.size,2,nO⟩=sO (U fs x.flds.length fc)):=λwx hx=>⟨by rw[hx.cell (by simp only;exact az)];exact a1,by rw[hx.cell (by simp only;exact az)];exact a2⟩
 have HD:Below w1.heap.size w1 w1.drew:=(bR _ _).drew
 clear a0 a1 a2 az
 refine au (S:=(λwx=>wx.cell? ⟨w.heap.size,1,nO⟩=sO (U vs x.vars.length vc)∧wx.cell? ⟨w.heap.size,2,nO⟩=sO (U fs x.flds.length fc))) [] (by kernel_rfl) (HKZ.out _ HD) (λhHeld=> ?_)
 refine vZ 0 ?_ ?_
 refine vZ 1 ?_ ?_
 refine vZ 2 ?_ ?_
 refine vZ 3 ?_ ?_
 refine an (i:=4) rfl (by kernel_rfl) (λK hK=> ?_)
 go_simp
 go_at_call 192
 refine(HC1.out _ (PF.below HD (lR _))).mono ?_
 rintro e w2 ⟨⟨rs,rc,rfl,GF,k1,k2⟩,hb2⟩
 have HB2:Below w1.heap.size w1 w2:=HD.trans (hb2.mono HD.size)
 go_wp2_with fail
 refine hK.out _ _ (HKZ.out _ HB2) (λhHeld=> ?_)
 clear hK K
 refine sm ?_
 refine an (i:=5) rfl (by kernel_rfl) (λK hK=> ?_)
 go_simp
 have hba:Below w2.heap.size w2 (w2.alloc (Cc #[U vs x.vars.length vc,U rs fl.length rc] 25)):=by go_grown
 have HB3:Below w1.heap.size w1 (w2.alloc (Cc #[U vs x.vars.length vc,U rs fl.length rc] 25)):=HB2.trans (hba.mono HB2.size)
 refine hK.out _ _ (HKZ.out _ HB3) (λhHeld=> ?_)
 clear hK K
 refine sm ?_
 have RR:RowsAt (w2.alloc (Cc #[U vs x.vars.length vc,U rs fl.length rc] 25)) (sO ⟨w2.heap.size,0,nO⟩) [x.vars,fl]:=Eu w2 (PV.below HB2 (lR _)) hvc hvm GF k1 k2
 refine an (i:=6) rfl (by kernel_rfl) (λK hK=> ?_)
 go_simp
 go_at_call 192
 refine(HC2.out _ _ RR).mono ?_
 rintro e w4 ⟨⟨ra,rb,rfl,GA,j1,j2⟩,hb4⟩
 have HB4:Below w1.heap.size w1 w4:=HB3.trans (hb4.mono HB3.size)
 go_wp2_with fail
 refine hK.out _ _ (HKZ.out _ HB4) (λhHeld=> ?_)
 clear hK K
 refine sm ?_
 refine vZ 7 ?_ ?_
 refine aq (by kernel_rfl) ?_ _
 go_wp2
 go_ret
 exact⟨⟨ra,rb,rfl,GA,j1,j2⟩,B0.trans (HB4.mono B0.size)⟩
end
end Go.Proofs.YtmapdpcfanecdabGreatDoor
