import Derived.Test.YtmapdpcfanecdabGreatDoorR27
open Bool renaming eq_false_or_eq_true→j7
open Go.Ending renaming returned→Rt
open Go.IntKind renaming i64→Y
open Go.Obj renaming cells→Cc
open Go.Proofs.Tryz renaming prog→pG
open Go.RowKit.Below renaming heap_setCell→hSe,refl→bR
open Go.Value renaming agg→Ag,bool→Bb,int→I,slice→U,tuple→Tu
open Go.World renaming size_alloc→zA
open List renaming Pairwise→j5,append_nil→q8,eq_nil_of_length_eq_zero→j9,filter_cons→q6,filter_nil→q7,getElem_mem→gM,map_append→q3,map_cons→q4,map_nil→q5,mem_cons→j8,mem_filter→j3,mem_map→q9,mem_range→j4,pairwise_lt_range→z1,pairwise_map→z0,take_of_length_le→j1,take_succ_eq_append_getElem→j2
open Nat renaming le_refl→lR,le_trans→lT,lt_of_lt_of_le→lL,zero_add→j0,zero_le→j6
open Option renaming none→nO,some→sO
set_option linter.unusedSimpArgs false
set_option linter.unusedVariables false
set_option maxHeartbeats 8000000
set_option maxRecDepth 100000
namespace Go.Proofs.YtmapdpcfanecdabGreatDoor
section
open Go.RowKit
attribute [local go_sem ↓] Go.wp_at_zero Go.wp_at_succ
def SameAns (e:Ending)(p:Prop):Prop:=∃b:Bool,e=Rt (Bb b)/\(b=true↔p)
theorem SameAns.no {p:Prop}(h:¬p):SameAns (Rt (Bb false)) p:=⟨false,rfl,⟨λe=>absurd e (by decide),λe=>absurd e h⟩⟩
theorem SameAns.yes {p:Prop}(h:p):SameAns (Rt (Bb true)) p:=⟨true,rfl,⟨λ_=>h,λ_=>rfl⟩⟩
theorem DQ {p:Prop} [Decidable p](h:¬p):Ending.returned (Bb false)=Rt (Bb (decide p)):=by rw[decide_eq_false h]
theorem Hq {p:Prop} [Decidable p](h:p):Ending.returned (Bb true)=Rt (Bb (decide p)):=by rw[decide_eq_true h]
theorem wu (s1 s2:oA)(c1 c2:Nat)(a b:List Int)(w:World)(ha:a.length<=maxLen)(hb:b.length<=maxLen)(h1:IntsAt w s1 a)(h2:IntsAt w s2 b):
  Calls pG 184 #[U s1 a.length c1,U s2 b.length c2] w λe w'=>e=Rt (Bb (decide (a=b)))/\Below w.heap.size w w':=by
 by_cases hl:a.length=b.length
 ·by_cases hn:a=[]
  ·subst hn
   have hb0:b=[]:=j9 hl.symm;subst hb0;exact yi s1 s2 c1 c2 w
  have hn2:b≠[]:=λe=>by rw[e] at hl;exact hn (j9 hl)
  rcases h1 with e|⟨b1,o1,rfl,b1lt,h1⟩
  ·exact absurd e hn
  rcases h2 with e|⟨b2,o2,rfl,b2lt,h2⟩
  ·exact absurd e hn2
  rw[<-hl];have HL:=aa hl;clear hl hn hn2;unfold maxLen at ha;go_enter Tryz.func184,Tryz.ntmps184;go_wp2;go_loopw [5] (λi wr=>∃k:Nat,k<=a.length/\i=I Y k/\Hid (a.take k=b.take k)/\Below w.heap.size w wr) (λi _=>a.length - (intOf i).toNat)
  case atStart=>exact⟨0,j6 _,rfl,rfl,bR _ _⟩
  case round=>
   obtain⟨k,hk,rfl,HE,hb⟩:=hrel;by_cases hlt:k < a.length
   ·have n0:(0:Int)<=(k:Int):=by omega
    have n1:(k:Int) < (a.length:Int):=by omega
    have hlb:k < b.length:=by have:=HL.out;omega
    obtain⟨x,hx⟩:∃x,x=a[k]:=⟨_,rfl⟩;obtain⟨y,hy⟩:∃y,y=b[k]:=⟨_,rfl⟩;have q0:wr.cell? ⟨b1,o1+k,nO⟩=sO (I Y x):=by rw[hb.cell (p:=⟨b1,_,nO⟩) b1lt,hx];exact h1 k hlt
    have r0:wr.cell? ⟨b2,o2+k,nO⟩=sO (I Y y):=by rw[hb.cell (p:=⟨b2,_,nO⟩) b2lt,hy];exact h2 k hlb
    have HXY:=aa (And.intro hx hy);clear h1 h2 hx hy;by_cases hxy:x=y
    ·have e1:(x !=y)=false:=by simpa using hxy
     have HQ:=aa hxy;clear hxy;go_wp2
     go_quiet (fail)
     go_wp2;go_roundw
     case rel=>exact⟨k+1,by omega,by go_num,by show _=_;rw[j2 hlt,j2 hlb,HE.out,<-HXY.out.1,<-HXY.out.2,HQ.out],below_drewN hb _⟩
     case measure=>simp[intOf];omega
    ·have e1:(x !=y)=true:=by simpa using hxy
     have HQ:=aa hxy;clear hxy;go_wp2
     go_quiet (fail)
     go_wp2;go_ret;exact⟨DQ λe=>by subst e;exact HQ.out (HXY.out.1.trans HXY.out.2.symm),below_drewN hb _⟩
   ·have n1:¬(k:Int) < (a.length:Int):=by omega
    go_wp2;go_ret;exact⟨Hq (by have h:=HE.out;rwa [j1 (by omega),j1 (by have:=HL.out;omega)] at h),hb⟩
 ·have e1:((a.length:Int)!=(b.length:Int))=true:=by simpa using λh=>hl (by omega)
  have HL:=aa hl;clear hl;go_enter Tryz.func184,Tryz.ntmps184;go_wp2;go_ret;exact⟨DQ λe=>HL.out (by rw[e]),bR _ _⟩
theorem uG (g:Gs)(ss:oA)(gc:Nat)(h:Gs)(st:oA)(hc:Nat)(w:World)(hs:IntsAt w ss g.s)(ht:IntsAt w st h.s)(hgl:g.s.length<=maxLen)(hhl:h.s.length<=maxLen):
  Calls pG 126 #[gv g ss gc,gv h st hc] w λe w'=>SameAns e (g=h)/\Below w.heap.size w w':=by
 obtain⟨n,⟨a,b,c⟩,t,f,sl⟩:=g;obtain⟨n',⟨a',b',c'⟩,t',f',sl'⟩:=h;have HI:=aa (λwx (hb:Below w.heap.size w wx)=>wu ss st gc hc sl sl' wx hgl hhl (hs.below hb (lR _)) (ht.below hb (lR _)));clear hs ht;go_enter Tryz.func126,Tryz.ntmps126;go_wp2_with (go_at_call 184;fail)
 ·refine(HI.out _ (by go_grown)).mono ?_
  rintro e w1 ⟨rfl,hb1⟩;clear HI;go_wp2;go_ret;exact⟨⟨decide (sl=sl'),rfl,by simp_all⟩,Below.trans (by go_grown) (hb1.mono (by go_size))⟩
 all_goals go_ret
 all_goals exact⟨SameAns.no (by simp_all),by go_grown⟩
theorem sM {p:Prop}(h:p:=by
 go_wp2;go_roundw
 case rel=>exact⟨k+1,by omega,by go_num,by show _=_;rw[List.take_succ_eq_append_getElem hlt,List.take_succ_eq_append_getElem hlb,HE.out,HQ.out],hbr.trans (HB5.mono hbr.size)⟩
 case measure=>simp[intOf];omega):p:=h
theorem kB (a b:List Gs)(s1:oA)(c1:Nat)(s2:oA)(c2:Nat)(w:World)(ha:a.length<=maxLen)(h1:GsAt w s1 a)(h2:GsAt w s2 b):
  Calls pG 74 #[U s1 a.length c1,U s2 b.length c2] w λe w'=>SameAns e (a=b)/\Below w.heap.size w w':=by
 have hm:maxLen<=9223372036854775807:=by decide
 by_cases hl:a.length=b.length
 ·rw[<-hl]
  have HL:=aa hl;clear hl;go_enter Tryz.func74,Tryz.ntmps74;go_wp2;go_loopw [5] (λi wr=>∃k:Nat,k<=a.length/\i=I Y k/\Hid (a.take k=b.take k)/\Below w.heap.size w wr) (λi _=>a.length - (intOf i).toNat)
  case atStart=>exact⟨0,j6 _,rfl,rfl,bR _ _⟩
  case round=>
   obtain⟨k,hk,rfl,HE,hbr⟩:=hrel;by_cases hlt:k < a.length
   ·have n0:(0:Int)<=(k:Int):=by omega
    have n1:(k:Int) < (a.length:Int):=by omega
    have hlb:k < b.length:=by have:=HL.out;omega
    obtain⟨b1,o1,rfl,ss1,g1,G1,I1,k1,m1⟩:=h1.below hbr (lR _) k hlt;obtain⟨b2,o2,rfl,ss2,g2,G2,I2,k2,m2⟩:=h2.below hbr (lR _) k hlb;have HSG:=aa (λwx (q1:IntsAt wx ss1 a[k].s) (q2:IntsAt wx ss2 b[k].s)=>uG a[k] ss1 g1 b[k] ss2 g2 wx q1 q2 (lT k1 m1) (lT k2 m2));have HKZ:=aa (λwx (hx:Below wr.heap.size wr wx)=>And.intro (G1.call hx).1 (G2.call hx).1);have HD:Below wr.heap.size wr wr.drew:=(bR _ _).drew;go_wp2;refine aw (S:=(λwx=>(wx.cell? ⟨b1,o1+k * 7,nO⟩=sO (Bb a[k].n)/\wx.cell? ⟨b1,o1+k * 7+1,nO⟩=sO (Bb a[k].sp.n)/\wx.cell? ⟨b1,o1+k * 7+2,nO⟩=sO (I Y a[k].sp.lo)/\wx.cell? ⟨b1,o1+k * 7+3,nO⟩=sO (I Y a[k].sp.hi)/\wx.cell? ⟨b1,o1+k * 7+4,nO⟩=sO (Bb a[k].t)/\wx.cell? ⟨b1,o1+k * 7+5,nO⟩=sO (Bb a[k].f)/\wx.cell? ⟨b1,o1+k * 7+6,nO⟩=sO (U ss1 a[k].s.length g1))/\(wx.cell? ⟨b2,o2+k * 7,nO⟩=sO (Bb b[k].n)/\wx.cell? ⟨b2,o2+k * 7+1,nO⟩=sO (Bb b[k].sp.n)/\wx.cell? ⟨b2,o2+k * 7+2,nO⟩=sO (I Y b[k].sp.lo)/\wx.cell? ⟨b2,o2+k * 7+3,nO⟩=sO (I Y b[k].sp.hi)/\wx.cell? ⟨b2,o2+k * 7+4,nO⟩=sO (Bb b[k].t)/\wx.cell? ⟨b2,o2+k * 7+5,nO⟩=sO (Bb b[k].f)/\wx.cell? ⟨b2,o2+k * 7+6,nO⟩=sO (U ss2 b[k].s.length g2)))) [] (by kernel_rfl) (HKZ.out _ HD) (λhHeld=> ?_);refine vZ 0 ?_ ?_;refine vZ 1 ?_ ?_;refine vZ 2 ?_ ?_;refine vZ 3 ?_ ?_;refine vZ 4 ?_ ?_;refine vZ 5 ?_ ?_;refine vZ 6 ?_ ?_;refine vZ 7 ?_ ?_;refine am (i:=8) rfl (by kernel_rfl) (λK hK=> ?_);go_simp;go_at_call 126;refine(HSG.out _ (I1.call HD) (I2.call HD)).mono ?_;rintro e w5 ⟨⟨bb,rfl,HBB0⟩,hb5⟩;have HBB:=aa HBB0;clear HBB0;have HB5:Below wr.heap.size wr w5:=HD.trans (hb5.mono HD.size);go_wp2_with fail;refine hK.out _ _ (HKZ.out _ HB5) (λhHeld=> ?_);clear hK K;refine sm ?_;refine vZ 9 ?_ ?_;refine ap (by kernel_rfl) ?_ _;rcases j7 bb with e1|e1
    ·have HQ:=aa (HBB.out.1 e1)
     subst e1;exact sM
    ·have HQ:Hid (¬a[k]=b[k]):=λh=>by rw[HBB.out.2 h] at e1;cases e1
     subst e1;go_wp2;go_ret;exact⟨SameAns.no λe=>HQ.out (by subst e;rfl),hbr.trans (HB5.mono hbr.size)⟩
   ·have n1:¬(k:Int) < (a.length:Int):=by omega
    go_wp2;go_ret;exact⟨SameAns.yes (by have h:=HE.out;rwa [j1 (by omega),j1 (by have:=HL.out;omega)] at h),hbr⟩
 ·have e1:((a.length:Int)!=(b.length:Int))=true:=by simpa using λh=>hl (by omega)
  have HL:=aa hl;clear hl;go_enter Tryz.func74,Tryz.ntmps74;go_wp2;go_ret;exact⟨SameAns.no λe=>HL.out (by rw[e]),bR _ _⟩
theorem pY (x y:Pic)(vs1:oA)(vc1:Nat)(fs1:oA)(fc1:Nat)(vs2:oA)(vc2:Nat)(fs2:oA)(fc2:Nat)(w:World)(hl:KA x)(h1:PicAt w x vs1 fs1)(h2:PicAt w y vs2 fs2):
  Calls pG 34 #[xv x vs1 vc1 fs1 fc1,xv y vs2 vc2 fs2 fc2] w λe w'=>SameAns e (x=y)/\Below w.heap.size w w':=by
 obtain⟨hl1,hl2⟩:=hl;have hm:maxLen<=9223372036854775807:=by decide
 have hb0:Below w.heap.size w ((w.alloc (Cc #[Bb x.none,U vs1 x.vars.length vc1,U fs1 x.flds.length fc1] 28)).alloc (Cc #[Bb y.none,U vs2 y.vars.length vc2,U fs2 y.flds.length fc2] 28)):=by go_grown
 have A0:=(XAt.new w x vs1 vc1 fs1 fc1).call (w':=((w.alloc (Cc #[Bb x.none,U vs1 x.vars.length vc1,U fs1 x.flds.length fc1] 28)).alloc (Cc #[Bb y.none,U vs2 y.vars.length vc2,U fs2 y.flds.length fc2] 28))) (by go_grown);have B0:=XAt.new (w.alloc (Cc #[Bb x.none,U vs1 x.vars.length vc1,U fs1 x.flds.length fc1] 28)) y vs2 vc2 fs2 fc2;rw[zA] at B0;have hP1:=h1.below hb0 (lR _);have hP2:=h2.below hb0 (lR _);have HS:=aa (kB x.vars y.vars vs1 vc1 vs2 vc2 ((w.alloc (Cc #[Bb x.none,U vs1 x.vars.length vc1,U fs1 x.flds.length fc1] 28)).alloc (Cc #[Bb y.none,U vs2 y.vars.length vc2,U fs2 y.flds.length fc2] 28)) hl1 hP1.1 hP2.1);clear h1 h2;unfold xv;obtain⟨⟨a0,a1,a2⟩,az,-⟩:=id A0;obtain⟨⟨b0,b1,b2⟩,bz,-⟩:=id B0;generalize hxn:x.none=xn at *;generalize hyn:y.none=yn at *;by_cases hn:xn=yn;rotate_left
 ·have HN:Hid (¬x=y):=λe=>hn (by rw[<-hxn,<-hyn,e])
  have hn2:(xn=true/\yn=false)\/(xn=false/\yn=true):=by cases xn<;>cases yn<;>simp_all
  clear hn HS A0 B0 hP1 hP2 hxn hyn a0 a1 a2 az b0 b1 b2 bz;rcases hn2 with⟨rfl,rfl⟩|⟨rfl,rfl⟩
  all_goals
   go_enter Tryz.func34,Tryz.ntmps34;go_wp2;go_ret;exact⟨SameAns.no HN.out,hb0⟩
 have HN:Hid (x.none=y.none):=by show _=_;rw[hxn,hyn,hn]
 subst hn;clear hxn hyn;go_enter Tryz.func34,Tryz.ntmps34
 go_upto_region 1 with fail
 generalize ((w.alloc (Cc #[Bb xn,U vs1 x.vars.length vc1,U fs1 x.flds.length fc1] 28)).alloc (Cc #[Bb xn,U vs2 y.vars.length vc2,U fs2 y.flds.length fc2] 28))=w0 at *;go_wp2_with (go_at_call 74;fail);refine HS.out.mono ?_;rintro e w1 ⟨⟨r1,rfl,HR0⟩,hb1⟩;have HR:=aa HR0;clear HS HR0 a0 a1 a2 az b0 b1 b2 bz;have R1:=hP1.2.below hb1 (lR _);have R2:=hP2.2.below hb1 (lR _);have A1:=A0.call hb1;have B1:=B0.call hb1;have H1:=hb0.trans (hb1.mono hb0.size);clear A0 B0 hP1 hP2 hb0 hb1;obtain⟨⟨a0,a1,a2⟩,az,-⟩:=id A1;obtain⟨⟨b0,b1,b2⟩,bz,-⟩:=id B1;rcases j7 r1 with er|er;rotate_left
 ·have HV:Hid (¬x=y):=λe=>by have h:=HR.out.2 (by rw[e]);rw[er] at h;cases h
  subst er;go_wp2;go_ret;exact⟨SameAns.no HV.out,H1⟩
 have HV:=aa (HR.out.1 er);subst er;by_cases hf:x.flds.length=y.flds.length;rotate_left
 ·have e2:((x.flds.length:Int)!=(y.flds.length:Int))=true:=by simpa using λh=>hf (by omega)
  have HF:Hid (¬x=y):=λe=>hf (by rw[e]);clear hf;go_wp2;go_ret;exact⟨SameAns.no HF.out,H1⟩
 have e2:((x.flds.length:Int)!=(y.flds.length:Int))=false:=by rw[hf];simp
 have HF:=aa hf;clear hf;go_wp2;clear a0 a1 a2 az b0 b1 b2 bz;go_loopw [5] (λi wr=>∃k:Nat,k<=x.flds.length/\i=I Y k/\Hid (x.flds.take k=y.flds.take k)/\Below w1.heap.size w1 wr) (λi _=>x.flds.length - (intOf i).toNat)
 case atStart=>exact⟨0,j6 _,rfl,rfl,bR _ _⟩
 case round=>
  obtain⟨k,hk,rfl,HE,hbr⟩:=hrel;obtain⟨⟨a0,a1,a2⟩,az,-⟩:=id (A1.call hbr);obtain⟨⟨b0,b1,b2⟩,bz,-⟩:=id (B1.call hbr);have hbz:=H1.trans (hbr.mono H1.size);by_cases hlt:k < x.flds.length
  ·have n0:(0:Int)<=(k:Int):=by omega
   have n1:(k:Int) < (x.flds.length:Int):=by omega
   have hlb:k < y.flds.length:=by have:=HF.out;omega
   have n2:(k:Int) < (y.flds.length:Int):=by omega
   obtain⟨p1,q1,rfl,zp1,r1,rc1,C1,k1,m1,J1⟩:=R1.below hbr (lR _) k hlt;obtain⟨p2,q2,rfl,zp2,r2,rc2,C2,k2,m2,J2⟩:=R2.below hbr (lR _) k hlb;have hgl:x.flds[k].length<=maxLen:=lT k1 m1;have HKZ:Hid (∀wx,Below wr.heap.size wr wx->(wx.cell? ⟨w.heap.size,2,nO⟩=sO (U (sO ⟨p1,q1,nO⟩) x.flds.length fc1)/\wx.cell? ⟨p1,q1+k,nO⟩=sO (U r1 x.flds[k].length rc1))/\(wx.cell? ⟨w.heap.size+1,2,nO⟩=sO (U (sO ⟨p2,q2,nO⟩) y.flds.length fc2)/\wx.cell? ⟨p2,q2+k,nO⟩=sO (U r2 y.flds[k].length rc2))):=λwx hx=>⟨⟨by rw[hx.cell (by simp only;exact az)];exact a2,by rw[hx.cell (by simp only;exact zp1)];exact C1⟩,by rw[hx.cell (by simp only;exact bz)];exact b2,by rw[hx.cell (by simp only;exact zp2)];exact C2⟩;have HD:Below wr.heap.size wr wr.drew:=(bR _ _).drew;go_wp2;refine aw (S:=(λwx=>(wx.cell? ⟨w.heap.size,2,nO⟩=sO (U (sO ⟨p1,q1,nO⟩) x.flds.length fc1)/\wx.cell? ⟨p1,q1+k,nO⟩=sO (U r1 x.flds[k].length rc1))/\(wx.cell? ⟨w.heap.size+1,2,nO⟩=sO (U (sO ⟨p2,q2,nO⟩) y.flds.length fc2)/\wx.cell? ⟨p2,q2+k,nO⟩=sO (U r2 y.flds[k].length rc2)))) [] (by kernel_rfl) (HKZ.out _ HD) (λhHeld=> ?_);refine vZ 0 ?_ ?_;refine vZ 1 ?_ ?_;refine vZ 2 ?_ ?_;refine vZ 3 ?_ ?_;refine vZ 4 ?_ ?_;refine vZ 5 ?_ ?_;refine vZ 6 ?_ ?_;refine vZ 7 ?_ ?_;refine vZ 8 ?_ ?_;refine vZ 9 ?_ ?_;refine am (i:=10) rfl (by kernel_rfl) (λK hK=> ?_);go_simp;go_at_call 74;refine(kB x.flds[k] y.flds[k] r1 rc1 r2 rc2 _ hgl (J1.call HD) (J2.call HD)).mono ?_;rintro e w5 ⟨⟨bb,rfl,HBB0⟩,hb5⟩;have HBB:=aa HBB0;clear HBB0;have HB5:Below wr.heap.size wr w5:=HD.trans (hb5.mono HD.size);go_wp2_with fail;refine hK.out _ _ (HKZ.out _ HB5) (λhHeld=> ?_);clear hK K;refine sm ?_;refine vZ 11 ?_ ?_;refine ap (by kernel_rfl) ?_ _;rcases j7 bb with er|er
   ·have HQ:=aa (HBB.out.1 er)
    subst er;exact sM
   ·have HQ:Hid (¬x=y):=λh=>by have h2:=HBB.out.2 (by subst h;rfl);rw[er] at h2;cases h2
    subst er;go_wp2;go_ret;exact⟨SameAns.no HQ.out,hbz.trans (HB5.mono hbz.size)⟩
  ·have n1:¬(k:Int) < (x.flds.length:Int):=by omega
   go_wp2;go_ret;refine⟨SameAns.yes ?_,hbz⟩;have h:=HE.out;rw[j1 (by omega),j1 (by have:=HF.out;omega)] at h;have h1:=HN.out;have h2:=HV.out;cases x;cases y
   simp_all
end
section
open Go.RowKit
theorem AU (V F:Int)(s:oA)(c:List Ins)(cap:Nat)(g:Gs)(ss:oA)(gc:Nat)(w:World)(hcd:CodeAt w s c)(hs:IntsAt w ss g.s)(h1:g.s.length<=gc)(h2:gc<=maxLen):
  Calls pG 140 #[pv V F s c cap,gv g ss gc] w λe w'=>e=Rt (I Y (aQ V F c [g]))/\Below w.heap.size w w':=by
 have B0:Below w.heap.size w (pgW w V F s c cap g ss gc):=by go_grown
 have L0:=GsAt.new1 (pgW w V F s c cap g ss gc) g ss gc ((hs.alloc _).alloc _) h1 h2;simp only[zA] at L0;have HC:=aa (bW V F s c cap (sO ⟨w.heap.size+1+1,0,nO⟩) [g] 1 _ (((hcd.alloc _).alloc _).alloc _) L0 (by simp));generalize aQ V F c [g]=ce at HC |-;clear hcd hs L0;go_enter Tryz.func140,Tryz.ntmps140;go_wp2_with (go_at_call 142;fail);refine HC.out.mono ?_;rintro e w1 ⟨rfl,hb1⟩;go_wp2;go_ret;exact⟨rfl,(B0.alloc B0.size _).trans (hb1.mono (by simp;omega))⟩

theorem Gv (V F:Int)(s:oA)(c:List Ins)(cap:Nat)(g:Gs)(ss:oA)(gc:Nat)(h:Gs)(st:oA)(hc:Nat)(w:World)
  (hcd:CodeAt w s c)(hs:IntsAt w ss g.s)(h1:g.s.length<=gc)(h2:gc<=maxLen)(ht:IntsAt w st h.s)(h3:h.s.length<=hc)(h4:hc<=maxLen)(hck:aQ V F c [g,h]=0)(hlen:([g,h].flatMap Gs.s).length<=1000000):
  Calls pG 72 #[pv V F s c cap,gv g ss gc,gv h st hc] w λe w'=>∃v,e=Rt (Tu #[Ag #[Bb (g.n||h.n),Bb (aU g.sp h.sp).n,I Y (aU g.sp h.sp).lo,I Y (aU g.sp h.sp).hi,Bb (g.t||h.t),Bb (g.f||h.f),v],I Y 0])/\w'.ownsRow w.heap.size 3 1 v (cq [g,h]).length ((cq [g,h]).map (.int .i64))/\Below w.heap.size w w':=by
 obtain⟨P0,G0,H0,R0,F0⟩:=dV w V F s c cap g ss gc h st hc;have B0:=cP w V F s c cap g ss gc h st hc;have C0:CodeAt (bD w V F s c cap g ss gc h st hc) s c:=hcd.below B0 (lR _);have I0:IntsAt (bD w V F s c cap g ss gc h st hc) ss g.s:=hs.below B0 (lR _);have J0:IntsAt (bD w V F s c cap g ss gc h st hc) st h.s:=ht.below B0 (lR _);have HT:=aa (tA V F s c cap g ss gc h st hc _ C0 I0 h1 h2 J0 h3 h4 hck hlen);clear hck hlen hcd hs ht P0 G0 H0 C0 I0 J0;generalize aU g.sp h.sp=J at HT |-;generalize cq [g,h]=T at HT |-;go_enter Tryz.func72,Tryz.ntmps72;go_wp2_with (go_at_call 123;fail);refine HT.out.mono ?_;rintro e w1 ⟨v,rfl,hown,hb1⟩;have R1:=R0.call hb1;have F1:Fr7 w1 (w.heap.size+1+1+1):=F0.call hb1;have B1:Below w.heap.size w w1:=B0.trans (hb1.mono B0.size);simp only[zA] at hown;have O1:=hown;obtain⟨vs,vc,rfl,-,-,-,-⟩:=IntsAt.own hown;clear hb1 R0 F0 B0 HT hown;obtain⟨⟨r0,r1,r2,r3,r4,r5,r6⟩,rz⟩:=id R1;simp only[j0,bn] at r0 r1 r2 r3 r4 r5 r6;have fz:=F1.1;go_wp2;refine bodyPost_ret (v:=Tu #[Ag #[Bb (g.n||h.n),Bb J.n,I Y J.lo,I Y J.hi,Bb (g.t||h.t),Bb (g.f||h.f),U vs T.length vc],I Y 0]) (by simp[results,Tryz.results72,go_sem,r0,r1,r2,r3,r4,r5,r6]) rfl ⟨_,rfl,?_,?_⟩
 ·exact eZ (fa O1 (by omega)) (by omega)
 ·exact aZ B1 (by omega)

theorem FO (V F:Int)(s:oA)(c:List Ins)(cap:Nat)(g:Gs)(ss:oA)(gc:Nat)(h:Gs)(st:oA)(hc:Nat)(w:World)
  (hcd:CodeAt w s c)(hs:IntsAt w ss g.s)(h1:g.s.length<=gc)(h2:gc<=maxLen)(ht:IntsAt w st h.s)(h3:h.s.length<=hc)(h4:hc<=maxLen)(hck:aQ V F c [g,h]=0)(hlen:([g,h].flatMap Gs.s).length<=1000000):
  Calls pG 73 #[pv V F s c cap,gv g ss gc,gv h st hc] w λe w'=>∃v,e=Rt (Tu #[Ag #[Bb (g.n||h.n),Bb (aY g.sp h.sp).n,I Y (aY g.sp h.sp).lo,I Y (aY g.sp h.sp).hi,Bb (g.t||h.t),Bb (g.f||h.f),v],I Y 0])/\w'.ownsRow w.heap.size 3 1 v (cq [g,h]).length ((cq [g,h]).map (.int .i64))/\Below w.heap.size w w':=by
 obtain⟨P0,G0,H0,R0,F0⟩:=dV w V F s c cap g ss gc h st hc;have B0:=cP w V F s c cap g ss gc h st hc;have C0:CodeAt (bD w V F s c cap g ss gc h st hc) s c:=hcd.below B0 (lR _);have I0:IntsAt (bD w V F s c cap g ss gc h st hc) ss g.s:=hs.below B0 (lR _);have J0:IntsAt (bD w V F s c cap g ss gc h st hc) st h.s:=ht.below B0 (lR _);have HT:=aa (tK V F s c cap g ss gc h st hc _ C0 I0 h1 h2 J0 h3 h4 hck hlen);clear hck hlen hcd hs ht P0 G0 H0 C0 I0 J0;generalize aY g.sp h.sp=J at HT |-;generalize cq [g,h]=T at HT |-;go_enter Tryz.func73,Tryz.ntmps73;go_wp2_with (go_at_call 123;fail);refine HT.out.mono ?_;rintro e w1 ⟨v,rfl,hown,hb1⟩;have R1:=R0.call hb1;have F1:Fr7 w1 (w.heap.size+1+1+1):=F0.call hb1;have B1:Below w.heap.size w w1:=B0.trans (hb1.mono B0.size);simp only[zA] at hown;have O1:=hown;obtain⟨vs,vc,rfl,-,-,-,-⟩:=IntsAt.own hown;clear hb1 R0 F0 B0 HT hown;obtain⟨⟨r0,r1,r2,r3,r4,r5,r6⟩,rz⟩:=id R1;simp only[j0,bn] at r0 r1 r2 r3 r4 r5 r6;have fz:=F1.1;go_wp2;refine bodyPost_ret (v:=Tu #[Ag #[Bb (g.n||h.n),Bb J.n,I Y J.lo,I Y J.hi,Bb (g.t||h.t),Bb (g.f||h.f),U vs T.length vc],I Y 0]) (by simp[results,Tryz.results73,go_sem,r0,r1,r2,r3,r4,r5,r6]) rfl ⟨_,rfl,?_,?_⟩
 ·exact eZ (fa O1 (by omega)) (by omega)
 ·exact aZ B1 (by omega)
abbrev mk (w:World)(V F:Int)(s:oA)(c:List Ins)(cap:Nat)(g:Gs)(ss:oA)(gc:Nat)(h:Gs)(st:oA)(hc:Nat):World:=
 ((w.alloc (Cc #[I Y V,I Y F,U s c.length cap] 24)).alloc (Cc #[Bb g.n,Bb g.sp.n,I Y g.sp.lo,I Y g.sp.hi,Bb g.t,Bb g.f,U ss g.s.length gc] 91)).alloc (Cc #[Bb h.n,Bb h.sp.n,I Y h.sp.lo,I Y h.sp.hi,Bb h.t,Bb h.f,U st h.s.length hc] 91)
theorem Ap (w:World)(V F:Int)(s:oA)(c:List Ins)(cap:Nat)(g:Gs)(ss:oA)(gc:Nat)(h:Gs)(st:oA)(hc:Nat):
  GuAt (mk w V F s c cap g ss gc h st hc) (w.heap.size+1) 0 g ss gc/\GuAt (mk w V F s c cap g ss gc h st hc) (w.heap.size+1+1) 0 h st hc/\Below w.heap.size w (mk w V F s c cap g ss gc h st hc):=by
 refine⟨?_,?_,by go_grown⟩
 ·have:=GuAt.new (w.alloc (Cc #[I Y V,I Y F,U s c.length cap] 24)) g ss gc
  rw[zA] at this;exact this.alloc _
 ·have:=GuAt.new ((w.alloc (Cc #[I Y V,I Y F,U s c.length cap] 24)).alloc (Cc #[Bb g.n,Bb g.sp.n,I Y g.sp.lo,I Y g.sp.hi,Bb g.t,Bb g.f,U ss g.s.length gc] 91)) h st hc
  simp only[zA] at this;exact this

theorem fX {a c:Bool}{b d:Int}(h:a=c)(h':b=d):Ending.returned (Tu #[Bb a,I Y b])=Rt (Tu #[Bb c,I Y d]):=by rw[h,h']
theorem fq (a b:Bool):(a=true/\b=false)\/a=false\/(a=true/\b=true):=by cases a<;>cases b<;>simp

theorem FE {s t:Sp}(hs:s.Ok)(ht:t.Ok):decide (au s t=s)=d9 s t:=by
 obtain⟨n,lo,hi⟩:=s;obtain⟨n',lo',hi'⟩:=t;obtain⟨-,-,hz,hl⟩:=hs;obtain⟨-,-,hz',hl'⟩:=ht;cases n with
 |true=>
  obtain⟨h1,h2⟩:=hz rfl;simp only at h1 h2;subst h1 h2;rfl
 |false=>
  cases n' with
  |true=>
   have e0:au ⟨false,lo,hi⟩ ⟨true,lo',hi'⟩=⟨true,0,0⟩:=rfl;rw[e0];simp[d9,Sp.has]
  |false=>
   simp only at hl hl';rw[Bool.eq_iff_iff,decide_eq_true_eq];unfold au d9 Sp.has;simp only[Bool.false_or,Bool.not_false,Bool.true_and,decide_eq_true_eq,Bool.and_eq_true];constructor
   ·intro h
    split at h
    ·cases h
    ·simp only[Sp.mk.injEq,true_and] at h
     omega
   ·intro h
    rw[if_neg (by omega)];simp only[Sp.mk.injEq,true_and];omega

theorem yr (V F:Int)(s:oA)(c:List Ins)(cap:Nat)(g:Gs)(ss:oA)(gc:Nat)(h:Gs)(st:oA)(hc:Nat)(w:World)
  (hcd:CodeAt w s c)(hs:IntsAt w ss g.s)(h1:g.s.length<=gc)(h2:gc<=maxLen)(ht:IntsAt w st h.s)(h3:h.s.length<=hc)(h4:hc<=maxLen)(hck:aQ V F c [g,h]≠0):
  Calls pG 161 #[pv V F s c cap,gv g ss gc,gv h st hc] w λe w'=>e=Rt (Tu #[Bb false,I Y (aQ V F c [g,h])])/\Below w.heap.size w w':=by
 obtain⟨G0,H0,B0⟩:=Ap w V F s c cap g ss gc h st hc;have I0:IntsAt (mk w V F s c cap g ss gc h st hc) ss g.s:=hs.below B0 (lR _);have J0:IntsAt (mk w V F s c cap g ss gc h st hc) st h.s:=ht.below B0 (lR _);have L0:=GsAt.new2 (mk w V F s c cap g ss gc h st hc) g ss gc h st hc I0 h1 h2 J0 h3 h4;simp only[zA] at L0;have HC:=aa (bW V F s c cap (sO ⟨w.heap.size+1+1+1,0,nO⟩) [g,h] 2 _ ((hcd.below B0 (lR _)).alloc _) L0 (by simp));have hne:(aQ V F c [g,h]!=0)=true:=by simpa using hck
 generalize aQ V F c [g,h]=ce at HC hne |-;clear hck hcd hs ht I0 J0 L0 G0 H0;go_enter Tryz.func161,Tryz.ntmps161;go_wp2_with (go_at_call 142;fail);refine HC.out.mono ?_;rintro e w1 ⟨rfl,hb1⟩;go_wp2
 go_ret2
 exact⟨rfl,(B0.alloc B0.size _).trans (hb1.mono (by simp;omega))⟩

theorem eK {p:Prop}(h:p:=by
 rintro e w2 ⟨rfl,hb2⟩;rw[oC];have G2:=G1.call hb2;have H2:=H1.call hb2;have B2:=B1.trans (hb2.mono B1.size);clear hb2 G1 H1 B1 I1 J1 g0 g1 g2 g3 g4 g5 g6 gz k0 k1 k2 k3 k4 k5 k6 kz;obtain⟨⟨g0,g1,g2,g3,g4,g5,g6⟩,gz⟩:=id G2;obtain⟨⟨k0,k1,k2,k3,k4,k5,k6⟩,kz⟩:=id H2;simp only[Nat.zero_add] at g0 g1 g2 g3 g4 g5 g6 k0 k1 k2 k3 k4 k5 k6;generalize hA:(sl.all λx=>h'.contains x)=al at *;have HA:=aa hA;clear hA;cases al with
 |false=>
  go_wp2
  go_ret2
  exact⟨fX (by rw[HR.out];simp) rfl,B2⟩
 |true=>
  go_wp2_with (go_at_call 201;fail);refine(HW.out _).mono ?_;rintro e w3 ⟨rfl,hb3⟩;go_wp2
  go_ret2
  exact⟨fX (by rw[HR.out];simp) rfl,B2.trans (hb3.mono B2.size)⟩):p:=h
theorem p7 (V F:Int)(s:oA)(c:List Ins)(cap:Nat)(g:Gs)(ss:oA)(gc:Nat)(h:Gs)(st:oA)(hc:Nat)(w:World)
  (hcd:CodeAt w s c)(hs:IntsAt w ss g.s)(h1:g.s.length<=gc)(h2:gc<=maxLen)(ht:IntsAt w st h.s)(h3:h.s.length<=hc)(h4:hc<=maxLen)(hck:aQ V F c [g,h]=0):
  Calls pG 161 #[pv V F s c cap,gv g ss gc,gv h st hc] w λe w'=>e=Rt (Tu #[Bb (cY g h),I Y 0])/\Below w.heap.size w w':=by
 obtain⟨G0,H0,B0⟩:=Ap w V F s c cap g ss gc h st hc;have I0:IntsAt (mk w V F s c cap g ss gc h st hc) ss g.s:=hs.below B0 (lR _);have J0:IntsAt (mk w V F s c cap g ss gc h st hc) st h.s:=ht.below B0 (lR _);have L0:=GsAt.new2 (mk w V F s c cap g ss gc h st hc) g ss gc h st hc I0 h1 h2 J0 h3 h4;simp only[zA] at L0;have HC:=aa (bW V F s c cap (sO ⟨w.heap.size+1+1+1,0,nO⟩) [g,h] 2 _ ((hcd.below B0 (lR _)).alloc _) L0 (by simp));obtain⟨hos,hot⟩:=ckSps_ok.1 (dY hck);have hW:=λw=>Cv g.sp h.sp w;rw[dY hck,show (decide ((0:Int)=0)&&decide (au g.sp h.sp=g.sp))=d9 g.sp h.sp by rw[FE hos hot];rfl] at hW;have HW:=aa hW;have hgl:g.s.length<=9223372036854775807:=by unfold maxLen at h2;omega
 have hlt:h.s.length<=9223372036854775807:=by unfold maxLen at h4;omega
 have HR:Hid (cY g h=(!(g.n&& !h.n)&&(!(g.t&& !h.t)&&(!(g.f&& !h.f)&&(d9 g.sp h.sp&&g.s.all λx=>h.s.contains x))))):=rfl;generalize cY g h=res at HR |-;generalize d9 g.sp h.sp=si at HR HW;rw[hck] at HC;clear hck hcd hs ht L0 hW hos hot;go_enter Tryz.func161,Tryz.ntmps161;go_wp2_with (go_at_call 142;fail);refine HC.out.mono ?_;rintro e w1 ⟨rfl,hb1⟩;have G1:=(G0.alloc _).call hb1;have H1:=(H0.alloc _).call hb1;have I1:=(I0.alloc _).call hb1;have J1:=(J0.alloc _).call hb1;have B1:Below w.heap.size w w1:=(B0.alloc B0.size _).trans (hb1.mono (by simp;omega));clear hb1 G0 H0 I0 J0 B0 HC;obtain⟨⟨g0,g1,g2,g3,g4,g5,g6⟩,gz⟩:=id G1;obtain⟨⟨k0,k1,k2,k3,k4,k5,k6⟩,kz⟩:=id H1;simp only[j0] at g0 g1 g2 g3 g4 g5 g6 k0 k1 k2 k3 k4 k5 k6;obtain⟨n,sp,t,f,sl⟩:=g;obtain⟨n',sp',t',f',h'⟩:=h;simp only at hgl hlt;rcases fq n n' with⟨rfl,rfl⟩|rfl|⟨rfl,rfl⟩
 ·go_wp2
  go_ret2
  exact⟨fX (by rw[HR.out];rfl) rfl,B1⟩
 ·rcases fq t t' with⟨rfl,rfl⟩|rfl|⟨rfl,rfl⟩
  ·go_wp2
   go_ret2
   exact⟨fX (by rw[HR.out];rfl) rfl,B1⟩
  ·rcases fq f f' with⟨rfl,rfl⟩|rfl|⟨rfl,rfl⟩
   ·go_wp2
    go_ret2
    exact⟨fX (by rw[HR.out];rfl) rfl,B1⟩
   ·go_wp2_with (go_at_call 200;fail)
    refine(cG (w.heap.size+1+1) (λx=> !h'.contains x) ss gc sl _ (by omega) I1 λx wx hbx=>fN x _ ⟨n',sp',t',f',h'⟩ st hc wx (H1.call hbx) (J1.call hbx) (by simpa using hlt)).mono ?_;exact eK
   ·go_wp2_with (go_at_call 200;fail)
    refine(cG (w.heap.size+1+1) (λx=> !h'.contains x) ss gc sl _ (by omega) I1 λx wx hbx=>fN x _ ⟨n',sp',t',true,h'⟩ st hc wx (H1.call hbx) (J1.call hbx) (by simpa using hlt)).mono ?_;exact eK
  ·rcases fq f f' with⟨rfl,rfl⟩|rfl|⟨rfl,rfl⟩
   ·go_wp2
    go_ret2
    exact⟨fX (by rw[HR.out];rfl) rfl,B1⟩
   ·go_wp2_with (go_at_call 200;fail)
    refine(cG (w.heap.size+1+1) (λx=> !h'.contains x) ss gc sl _ (by omega) I1 λx wx hbx=>fN x _ ⟨n',sp',true,f',h'⟩ st hc wx (H1.call hbx) (J1.call hbx) (by simpa using hlt)).mono ?_;exact eK
   ·go_wp2_with (go_at_call 200;fail)
    refine(cG (w.heap.size+1+1) (λx=> !h'.contains x) ss gc sl _ (by omega) I1 λx wx hbx=>fN x _ ⟨n',sp',true,true,h'⟩ st hc wx (H1.call hbx) (J1.call hbx) (by simpa using hlt)).mono ?_;exact eK
 ·rcases fq t t' with⟨rfl,rfl⟩|rfl|⟨rfl,rfl⟩
  ·go_wp2
   go_ret2
   exact⟨fX (by rw[HR.out];rfl) rfl,B1⟩
  ·rcases fq f f' with⟨rfl,rfl⟩|rfl|⟨rfl,rfl⟩
   ·go_wp2
    go_ret2
    exact⟨fX (by rw[HR.out];rfl) rfl,B1⟩
   ·go_wp2_with (go_at_call 200;fail)
    refine(cG (w.heap.size+1+1) (λx=> !h'.contains x) ss gc sl _ (by omega) I1 λx wx hbx=>fN x _ ⟨true,sp',t',f',h'⟩ st hc wx (H1.call hbx) (J1.call hbx) (by simpa using hlt)).mono ?_;exact eK
   ·go_wp2_with (go_at_call 200;fail)
    refine(cG (w.heap.size+1+1) (λx=> !h'.contains x) ss gc sl _ (by omega) I1 λx wx hbx=>fN x _ ⟨true,sp',t',true,h'⟩ st hc wx (H1.call hbx) (J1.call hbx) (by simpa using hlt)).mono ?_;exact eK
  ·rcases fq f f' with⟨rfl,rfl⟩|rfl|⟨rfl,rfl⟩
   ·go_wp2
    go_ret2
    exact⟨fX (by rw[HR.out];rfl) rfl,B1⟩
   ·go_wp2_with (go_at_call 200;fail)
    refine(cG (w.heap.size+1+1) (λx=> !h'.contains x) ss gc sl _ (by omega) I1 λx wx hbx=>fN x _ ⟨true,sp',true,f',h'⟩ st hc wx (H1.call hbx) (J1.call hbx) (by simpa using hlt)).mono ?_;exact eK
   ·go_wp2_with (go_at_call 200;fail)
    refine(cG (w.heap.size+1+1) (λx=> !h'.contains x) ss gc sl _ (by omega) I1 λx wx hbx=>fN x _ ⟨true,sp',true,true,h'⟩ st hc wx (H1.call hbx) (J1.call hbx) (by simpa using hlt)).mono ?_;exact eK
theorem Cm {V F:Int}{c:List Ins}{g:Gs}(hk:aQ V F c [g]=0):ah V F c=0/\aq c g=0:=by
 unfold aQ at hk;by_cases h0:ah V F c=0
 ·rw[if_pos h0] at hk
  have e:bU c [g]=if aq c g=0 then 0 else aq c g:=rfl
  rw[e] at hk;by_cases hg:aq c g=0
  ·exact⟨h0,hg⟩
  ·rw[if_neg hg] at hk;exact absurd hk hg
 ·rw[if_neg h0] at hk;exact absurd hk h0
theorem im {c:List Ins}{g:Gs}(h:aq c g=0):ci g.sp=0:=by
 unfold aq at h;split at h
 ·assumption
 ·rename_i hn;exact Decidable.not_not.1 hn
theorem Ku (w:World)(V F:Int)(s:oA)(c:List Ins)(cap:Nat)(g:Gs)(ss:oA)(gc:Nat):GuAt (pgW w V F s c cap g ss gc) (w.heap.size+1) 0 g ss gc/\Below w.heap.size w (pgW w V F s c cap g ss gc):=by
 refine⟨?_,by go_grown⟩;have:=GuAt.new (w.alloc (Cc #[I Y V,I Y F,U s c.length cap] 24)) g ss gc;rw[zA] at this;exact this

theorem Ea (V F:Int)(s:oA)(c:List Ins)(cap:Nat)(g:Gs)(ss:oA)(gc:Nat)(w:World)(hcd:CodeAt w s c)(hs:IntsAt w ss g.s)(h1:g.s.length<=gc)(h2:gc<=maxLen)(hck:aQ V F c [g]=0):
  Calls pG 160 #[pv V F s c cap,gv g ss gc] w λe w'=>e=Rt (Tu #[Bb (bT g),Bb (cA g),I Y 0])/\Below w.heap.size w w':=by
 obtain⟨G0,B0⟩:=Ku w V F s c cap g ss gc;have I0:IntsAt (pgW w V F s c cap g ss gc) ss g.s:=hs.below B0 (lR _);have L0:=GsAt.new1 (pgW w V F s c cap g ss gc) g ss gc I0 h1 h2;simp only[zA] at L0;have HC:=aa (bW V F s c cap (sO ⟨w.heap.size+1+1,0,nO⟩) [g] 1 _ ((hcd.below B0 (lR _)).alloc _) L0 (by simp));have HT:=aa (λw=>sj g ss gc w (im (Cm hck).2));rw[hck] at HC;generalize bT g=y at HT |-;generalize cA g=n at HT |-;clear hck hcd hs I0 L0;go_enter Tryz.func160,Tryz.ntmps160;go_wp2_with (go_at_call 142;fail);refine HC.out.mono ?_;rintro e w1 ⟨rfl,hb1⟩;have G1:=(G0.alloc _).call hb1;have B1:Below w.heap.size w w1:=(B0.alloc B0.size _).trans (hb1.mono (by simp;omega));clear hb1 HC G0 B0;obtain⟨⟨g0,g1,g2,g3,g4,g5,g6⟩,gz⟩:=id G1;simp only[j0] at g0 g1 g2 g3 g4 g5 g6;go_wp2_with (go_at_call 198;fail);refine(HT.out _).mono ?_;rintro e w2 ⟨rfl,hb2⟩;go_wp2
 go_ret3
 exact⟨rfl,B1.trans (hb2.mono B1.size)⟩
theorem GuAt.grown {w w':World}{vb:Option Nat}{b o:Nat}{g:Gs}{ss:oA}{cap:Nat}(hg:w.grownBy w' vb)(h:GuAt w b o g ss cap)(hne:sO b≠vb):GuAt w' b o g ss cap:=by
 obtain⟨⟨h0,h1,h2,h3,h4,h5,h6⟩,hz⟩:=h;have hk:=hg.block b hz hne;have c:∀j,w'.cell? ⟨b,j,nO⟩=w.cell? ⟨b,j,nO⟩:=λj=>World.cell?_of_block (a:=⟨b,j,nO⟩) hk;exact⟨⟨by rw[c];exact h0,by rw[c];exact h1,by rw[c];exact h2,by rw[c];exact h3,by rw[c];exact h4,by rw[c];exact h5,by rw[c];exact h6⟩,lL hz hg.size⟩
theorem Fr7.grown {w w':World}{vb:Option Nat}{b:Nat}(hg:w.grownBy w' vb)(h:Fr7 w b)(hne:sO b≠vb):Fr7 w' b:=by
 have hk:=hg.block b h.2 hne;exact⟨λj=>by rw[World.frozen?_of_block (a:=⟨b,j,nO⟩) hk];exact h.1 j,lL h.2 hg.size⟩
theorem GuAt.setFar {w:World}{b b' o j:Nat}{g:Gs}{ss:oA}{cap:Nat}{v:Value}(h:GuAt w b o g ss cap)(hne:b≠b'):GuAt (w.setCell ⟨b',j,nO⟩ v) b o g ss cap:=by
 obtain⟨⟨h0,h1,h2,h3,h4,h5,h6⟩,hz⟩:=h;have c:∀i,(w.setCell ⟨b',j,nO⟩ v).cell? ⟨b,i,nO⟩=w.cell? ⟨b,i,nO⟩:=λi=>World.cell?_setCell_far _ ⟨b',j,nO⟩ ⟨b,i,nO⟩ _ (λe=>hne e.symm);exact⟨⟨by rw[c];exact h0,by rw[c];exact h1,by rw[c];exact h2,by rw[c];exact h3,by rw[c];exact h4,by rw[c];exact h5,by rw[c];exact h6⟩,by simpa using hz⟩
theorem GuAt.setS {w:World}{b:Nat}{g:Gs}{ss ss':oA}{cap cap':Nat}{s':List Int}(h:GuAt w b 0 g ss cap):GuAt (w.setCell ⟨b,6,nO⟩ (U ss' s'.length cap')) b 0 ⟨g.n,g.sp,g.t,g.f,s'⟩ ss' cap':=by
 obtain⟨⟨h0,h1,h2,h3,h4,h5,h6⟩,hz⟩:=h;simp only[j0] at h0 h1 h2 h3 h4 h5 h6;refine⟨?_,by simpa using hz⟩;simp[go_sem,h0,h1,h2,h3,h4,h5,h6]
theorem Fr7.set {w:World}{b b' j:Nat}{v:Value}(h:Fr7 w b):Fr7 (w.setCell ⟨b',j,nO⟩ v) b:=⟨λi=>by simp[go_sem,h.1 i],by simpa using h.2⟩
theorem li {w:World}{B n b j z:Nat}{e:TypeId}{v u:Value}{xs:List Value}(h:w.ownsRow B e z v n xs)(hb:b < B):(w.setCell ⟨b,j,nO⟩ u).ownsRow B e z v n xs:=
 ⟨h.1,h.2.imp id λ⟨g,cap,cur,r1,r2,r3,r4⟩=>⟨g,cap,cur,r1,r2,by rw[hSe _ _ _ _ (by show g≠b;omega)];exact r3,r4⟩⟩

def bx (a b:List Int)(k:Nat):List Int:=((List.range k).map λn:Nat=>(n:Int)).filter λx=>a.contains x||b.contains x
theorem yU (a b:List Int)(k:Nat):bx a b (k+1)=bx a b k++(if (a.contains (k:Int)||b.contains (k:Int))=true then [(k:Int)] else []):=by
 unfold bx;rw[List.range_succ,q3,List.filter_append];congr 1;by_cases h:(a.contains (k:Int)||b.contains (k:Int))=true
 ·simp only[q4,q5,q6,h,if_true,q7]
 ·simp only[q4,q5,q6,h,if_false,q7,Bool.false_eq_true]
theorem CI (a b:List Int)(k:Nat):(bx a b k).length<=k:=by
 unfold bx;exact lT (List.length_filter_le _ _) (by simp)
def Bv (w:World)(g:Gs)(ss:oA)(gc:Nat)(h:Gs)(st:oA)(hc:Nat)(w':World):Prop:=
 (w'.cell? ⟨w.heap.size,0,nO⟩=sO (Bb g.n)/\w'.cell? ⟨w.heap.size,1,nO⟩=sO (Bb g.sp.n)/\w'.cell? ⟨w.heap.size,2,nO⟩=sO (I Y g.sp.lo)/\w'.cell? ⟨w.heap.size,3,nO⟩=sO (I Y g.sp.hi)/\w'.cell? ⟨w.heap.size,4,nO⟩=sO (Bb g.t)/\w'.cell? ⟨w.heap.size,5,nO⟩=sO (Bb g.f)/\w'.cell? ⟨w.heap.size,6,nO⟩=sO (U ss g.s.length gc))/\
 (w'.cell? ⟨w.heap.size+1,0,nO⟩=sO (Bb h.n)/\w'.cell? ⟨w.heap.size+1,1,nO⟩=sO (Bb h.sp.n)/\w'.cell? ⟨w.heap.size+1,2,nO⟩=sO (I Y h.sp.lo)/\w'.cell? ⟨w.heap.size+1,3,nO⟩=sO (I Y h.sp.hi)/\w'.cell? ⟨w.heap.size+1,4,nO⟩=sO (Bb h.t)/\w'.cell? ⟨w.heap.size+1,5,nO⟩=sO (Bb h.f)/\w'.cell? ⟨w.heap.size+1,6,nO⟩=sO (U st h.s.length hc))
theorem rj {p:Prop}(h:p:=by
 have hln:=HL.out k;go_wp2_with (at_builtin;refine wpList_append_own _ rfl _ _ 34 rfl W.heap.size 3 ti (.int .i64 0) 1 8 Tryz.underlying34 hi hz0 hz1 hz2 rfl (by decide) _ _ _ rfl (OR.alloc _) ⟨wr.heap.size,0,none⟩ 1 1 [.int .i64 (k:Int)] rfl rfl (cell_one_new _ _ _) (λx hx=>by simp at hx;subst hx;rfl) (by unfold maxLen;omega) (by omega) (by simp;omega) ?_;intro v' w3 hown' hgrow3 hnil3;have hlow:∀b,b < W.heap.size->some b≠(Value.slice vs (bx sl h.s k).length vc).ownBlock:=(λb hb e=>by have:=ke OR e.symm;omega);have O3:w3.ownsRow W.heap.size 3 1 v' (bx sl h.s (k+1)).length ((bx sl h.s (k+1)).map (.int .i64)):=(by rw[HT.out,List.map_append,List.length_append];exact hown');obtain⟨vs',vc',hv',-⟩:=IntsAt.own O3;subst hv';have G3:=((GR.alloc _).grown hgrow3 (hlow _ (by omega)));have H3:=((HR.alloc _).grown hgrow3 (hlow _ (by omega)));have R3:=((RR.alloc _).grown hgrow3 (hlow _ (by omega)));have F3:=((FR.alloc _).grown hgrow3 (hlow _ (by omega)));have U3:=((UR.alloc _).grown hgrow3 (hlow _ (by omega)));have X3:=((XR.alloc _).grown hgrow3 (hlow _ (by omega)));have B3:=((BR.alloc BR.size _).grown hgrow3 (by simp;have:=BR.size;omega) (λj hj=>by have:=ke OR hj;omega));have z3:=hgrow3.size;simp only[World.size_alloc] at z3;obtain⟨⟨u0,u1,u2,u3,u4,u5,u6⟩,uz⟩:=id U3;simp only[Nat.zero_add] at u0 u1 u2 u3 u4 u5 u6;have fz3:=X3.1);go_roundw
 case rel=>exact⟨k+1,vs',vc',by omega,by go_num,G3.setFar (by omega),H3.setFar (by omega),R3.setFar (by omega),F3.set,U3.setS,X3.set,li O3 (by omega),by simp;omega,B3.setCell (by show w.heap.size<=ob;omega) _⟩
 case measure=>simp[intOf];omega):p:=h
theorem rJ {p:Prop}(h:p:=by
 go_wp2_with (go_at_call 168;fail);refine(oX (k:Int) ss gc sl _ hgl IR).mono ?_;rintro e w5 ⟨rfl,hw5⟩;have hw6:=hw5.symm;subst hw6;have HD:Hid (sl.contains (k:Int)=sl.contains (k:Int)):=rfl;generalize hd:sl.contains (k:Int)=d at *;have HE:=aa hd;clear hd HD hw5;cases d with
 |true=>
  have HT:Hid (bx sl h.s (k+1)=bx sl h.s k++[(k:Int)]):=by show _=_;rw[HS.out k,if_pos];simp only[HE.out,Bool.true_or]
  exact rj
 |false=>
  go_wp2_with (go_at_call 168;fail);refine(oX (k:Int) st hc h.s _ hlt' JR).mono ?_;rintro e w5 ⟨rfl,hw5⟩;have hw6:=hw5.symm;subst hw6;generalize hd2:h.s.contains (k:Int)=d2 at *;have HE2:=aa hd2;clear hd2 hw5;cases d2 with
  |true=>
   have HT:Hid (bx sl h.s (k+1)=bx sl h.s k++[(k:Int)]):=by show _=_;rw[HS.out k,if_pos];simp only[HE.out,HE2.out,Bool.false_or]
   exact rj
  |false=>
   have HT:Hid (bx sl h.s (k+1)=bx sl h.s k):=by show _=_;rw[HS.out k,if_neg (by simp only[HE.out,HE2.out];simp),List.append_nil]
   go_wp2;go_roundw
   case rel=>exact⟨k+1,vs,vc,by omega,by go_num,GR,HR,RR,FR,by rw[HT.out];exact UR,XR,by rw[HT.out];exact OR,zR,BR⟩
   case measure=>simp[intOf];omega):p:=h
theorem s9 {p:Prop}(h:p:=by
 have HS:=aa (yU g.s h.s);have HL:=aa (CI g.s h.s);clear G0 H0 B0;go_enter Tryz.func114,Tryz.ntmps114;go_wp2;generalize ((w.alloc (.cells #[.bool g.n,.bool g.sp.n,.int .i64 g.sp.lo,.int .i64 g.sp.hi,.bool g.t,.bool g.f,.slice ss g.s.length gc] 91)).alloc (.cells #[.bool h.n,.bool h.sp.n,.int .i64 h.sp.lo,.int .i64 h.sp.hi,.bool h.t,.bool h.f,.slice st h.s.length hc] 91)).alloc (.cells #[.bool false,.bool false,.int .i64 0,.int .i64 0,.bool false,.bool false,.slice none 0 0] 91)=w1 at *;have KS:∀wx,GuAt wx w.heap.size 0 g ss gc->GuAt wx (w.heap.size+1) 0 h st hc->Bv w g ss gc h st hc wx:=λwx a b=>⟨by simpa using a.1,by simpa using b.1⟩;unfold Bv at KS;obtain⟨n,sp,t,f,sl⟩:=g;refine wp_region_held_drew (S:=Bv w ⟨n,sp,t,f,sl⟩ ss gc h st hc) (by kernel_rfl) (KS _ G1.drew H1.drew) (λhHeld=> ?_);unfold Bv at hHeld |-;refine vH 0 ?_ ?_;refine vH 1 ?_ ?_;refine vH 2 ?_ ?_;refine wpAnyH_take (i:=3) (v:=if n=true then undef else .pointer (some ⟨w.heap.size+1,0,none⟩)) rfl (by kernel_rfl) (by kernel_rfl) (by kernel_rfl) (λ_ _ _ h=>h) ?_ (by assumption) ?_
 ·cases n
  ·refine Or.inl ⟨?_,?_⟩
   ·rfl
   ·(intro w hSw;(try dsimp only at hSw);first|(go_simp;done)|(go_simp;with_reducible rfl))
  ·exact Or.inr ⟨rfl,rfl⟩
 refine sm ?_;refine wpAnyH_take (i:=4) (v:=if n=true then undef else .bool h.n) rfl (by kernel_rfl) (by kernel_rfl) (by kernel_rfl) (λ_ _ _ h=>h) ?_ (by assumption) ?_
 ·cases n
  ·refine Or.inl ⟨?_,?_⟩
   ·rfl
   ·(intro w hSw;(try dsimp only at hSw);first|(go_simp;done)|(go_simp;with_reducible rfl))
  ·exact Or.inr ⟨rfl,rfl⟩
 refine sm ?_;refine wpAnyH_take (i:=5) (v:=.bool (n||h.n)) rfl (by kernel_rfl) (by kernel_rfl) (by kernel_rfl) (λ_ _ _ h=>h) ?_ (by assumption) ?_
 ·cases n
  ·refine Or.inl ⟨?_,?_⟩
   ·rfl
   ·(intro w hSw;(try dsimp only at hSw);first|(go_simp;done)|(go_simp;with_reducible rfl))
  ·refine Or.inl ⟨?_,?_⟩
   ·rfl
   ·(intro w hSw;(try dsimp only at hSw);first|(go_simp;done)|(go_simp;with_reducible rfl))
 refine sm ?_;refine vH 6 ?_ ?_;refine vH 7 ?_ ?_;refine vH 8 ?_ ?_;refine vH 9 ?_ ?_;refine vH 10 ?_ ?_;refine vH 12 ?_ ?_;refine vH 13 ?_ ?_;refine vH 18 ?_ ?_;refine vH 19 ?_ ?_;refine wpAnyH_ready (rs:=[11,25]) (by kernel_rfl) (by simp) ?_;refine AllReadyH.cons rfl (λK hK=> ?_) (AllReadyH.cons rfl (λK hK=> ?_) AllReadyH.nil)
 ·go_simp
  refine(HJ.out _).mono ?_;rintro e w2 ⟨rfl,hb2⟩;have G2:=G1.drew.call hb2;have H2:=H1.drew.call hb2;have R2:=R1.drew.call hb2;have F2:=F1.drew.call hb2;have B2:Below w.heap.size w w2:=B1.drew.trans (hb2.mono B1.size);clear hb2 G1 H1 R1 F1 B1;refine hK.out _ _ (KS _ G2 H2) (λhHeld=> ?_);clear hK K;refine sm ?_;refine vH 14 ?_ ?_;refine wpAnyH_take (i:=15) (v:=if t=true then undef else .pointer (some ⟨w.heap.size+1,4,none⟩)) rfl (by kernel_rfl) (by kernel_rfl) (by kernel_rfl) (λ_ _ _ h=>h) ?_ (by assumption) ?_
  ·cases t
   ·refine Or.inl ⟨?_,?_⟩
    ·rfl
    ·(intro w hSw;(try dsimp only at hSw);first|(go_simp;done)|(go_simp;with_reducible rfl))
   ·exact Or.inr ⟨rfl,rfl⟩
  refine sm ?_;refine wpAnyH_take (i:=16) (v:=if t=true then undef else .bool h.t) rfl (by kernel_rfl) (by kernel_rfl) (by kernel_rfl) (λ_ _ _ h=>h) ?_ (by assumption) ?_
  ·cases t
   ·refine Or.inl ⟨?_,?_⟩
    ·rfl
    ·(intro w hSw;(try dsimp only at hSw);first|(go_simp;done)|(go_simp;with_reducible rfl))
   ·exact Or.inr ⟨rfl,rfl⟩
  refine sm ?_;refine wpAnyH_take (i:=17) (v:=.bool (t||h.t)) rfl (by kernel_rfl) (by kernel_rfl) (by kernel_rfl) (λ_ _ _ h=>h) ?_ (by assumption) ?_
  ·cases t
   ·refine Or.inl ⟨?_,?_⟩
    ·rfl
    ·(intro w hSw;(try dsimp only at hSw);first|(go_simp;done)|(go_simp;with_reducible rfl))
   ·refine Or.inl ⟨?_,?_⟩
    ·rfl
    ·(intro w hSw;(try dsimp only at hSw);first|(go_simp;done)|(go_simp;with_reducible rfl))
  refine sm ?_;refine vH 20 ?_ ?_;refine wpAnyH_take (i:=21) (v:=if f=true then undef else .pointer (some ⟨w.heap.size+1,5,none⟩)) rfl (by kernel_rfl) (by kernel_rfl) (by kernel_rfl) (λ_ _ _ h=>h) ?_ (by assumption) ?_
  ·cases f
   ·refine Or.inl ⟨?_,?_⟩
    ·rfl
    ·(intro w hSw;(try dsimp only at hSw);first|(go_simp;done)|(go_simp;with_reducible rfl))
   ·exact Or.inr ⟨rfl,rfl⟩
  refine sm ?_;refine wpAnyH_take (i:=22) (v:=if f=true then undef else .bool h.f) rfl (by kernel_rfl) (by kernel_rfl) (by kernel_rfl) (λ_ _ _ h=>h) ?_ (by assumption) ?_
  ·cases f
   ·refine Or.inl ⟨?_,?_⟩
    ·rfl
    ·(intro w hSw;(try dsimp only at hSw);first|(go_simp;done)|(go_simp;with_reducible rfl))
   ·exact Or.inr ⟨rfl,rfl⟩
  refine sm ?_;refine wpAnyH_take (i:=23) (v:=.bool (f||h.f)) rfl (by kernel_rfl) (by kernel_rfl) (by kernel_rfl) (λ_ _ _ h=>h) ?_ (by assumption) ?_
  ·cases f
   ·refine Or.inl ⟨?_,?_⟩
    ·rfl
    ·(intro w hSw;(try dsimp only at hSw);first|(go_simp;done)|(go_simp;with_reducible rfl))
   ·refine Or.inl ⟨?_,?_⟩
    ·rfl
    ·(intro w hSw;(try dsimp only at hSw);first|(go_simp;done)|(go_simp;with_reducible rfl))
  refine sm ?_;refine vH 24 ?_ ?_;refine wpAnyH_ready (rs:=[25]) (by kernel_rfl) (by simp) ?_;refine AllReadyH.cons rfl (λK hK=> ?_) AllReadyH.nil;go_simp;refine hK.out _ _ (KS _ (G2.alloc _) (H2.alloc _)) (λhHeld=> ?_);clear hK K;refine sm ?_;refine wpAnyH_ready (rs:=[26]) (by kernel_rfl) (by simp) ?_;refine AllReadyH.cons rfl (λK hK=> ?_) AllReadyH.nil;go_simp;refine hK.out _ _ (KS _ (G2.alloc _) (H2.alloc _)) (λhHeld=> ?_);clear hK K;refine sm ?_;have GW:=G2.alloc (.cells #[.bool (n||h.n),.bool J.n,.int .i64 J.lo,.int .i64 J.hi,.bool (t||h.t),.bool (f||h.f),.slice none 0 0] 91);have HW:=H2.alloc (.cells #[.bool (n||h.n),.bool J.n,.int .i64 J.lo,.int .i64 J.hi,.bool (t||h.t),.bool (f||h.f),.slice none 0 0] 91);have RW:=R2.alloc (.cells #[.bool (n||h.n),.bool J.n,.int .i64 J.lo,.int .i64 J.hi,.bool (t||h.t),.bool (f||h.f),.slice none 0 0] 91);have FW:=F2.alloc (.cells #[.bool (n||h.n),.bool J.n,.int .i64 J.lo,.int .i64 J.hi,.bool (t||h.t),.bool (f||h.f),.slice none 0 0] 91);have BW:=B2.alloc B2.size (.cells #[.bool (n||h.n),.bool J.n,.int .i64 J.lo,.int .i64 J.hi,.bool (t||h.t),.bool (f||h.f),.slice none 0 0] 91);have UW:GuAt (w2.alloc (.cells #[.bool (n||h.n),.bool J.n,.int .i64 J.lo,.int .i64 J.hi,.bool (t||h.t),.bool (f||h.f),.slice none 0 0] 91)) w2.heap.size 0 ⟨n||h.n,J,t||h.t,f||h.f,bx sl h.s 0⟩ none 0:=GuAt.new w2 ⟨n||h.n,J,t||h.t,f||h.f,[]⟩ none 0;have XW:Fr7 (w2.alloc (.cells #[.bool (n||h.n),.bool J.n,.int .i64 J.lo,.int .i64 J.hi,.bool (t||h.t),.bool (f||h.f),.slice none 0 0] 91)) w2.heap.size:=⟨λj=>by simp[go_sem],by simp⟩;have zo:w.heap.size+1+1 < w2.heap.size:=F2.2;have zw:=XW.2;clear G2 H2 R2 F2 B2;generalize w2.alloc (.cells #[.bool (n||h.n),.bool J.n,.int .i64 J.lo,.int .i64 J.hi,.bool (t||h.t),.bool (f||h.f),.slice none 0 0] 91)=W at *;generalize w2.heap.size=ob at *;refine wpAnyH_done (by kernel_rfl) ?_ _;generalize (if n=true then undef else(.pointer (some ⟨w.heap.size+1,0,none⟩):Value))=y0;generalize (if n=true then undef else(.bool h.n:Value))=y1;generalize (if t=true then undef else(.pointer (some ⟨w.heap.size+1,4,none⟩):Value))=y2;generalize (if t=true then undef else(.bool h.t:Value))=y3;generalize (if f=true then undef else(.pointer (some ⟨w.heap.size+1,5,none⟩):Value))=y4;generalize (if f=true then undef else(.bool h.f:Value))=y5;clear hHeld KS HJ;go_wp2;go_loopw [8] (λi wr=>∃(k:Nat) (vs:oA) (vc:Nat),k<=60/\i=.int .i64 k/\GuAt wr w.heap.size 0 ⟨n,sp,t,f,sl⟩ ss gc/\GuAt wr (w.heap.size+1) 0 h st hc/\GuAt wr (w.heap.size+1+1) 0 bn none 0/\Fr7 wr (w.heap.size+1+1)/\GuAt wr ob 0 ⟨n||h.n,J,t||h.t,f||h.f,bx sl h.s k⟩ vs vc/\Fr7 wr ob/\wr.ownsRow W.heap.size 3 1 (.slice vs (bx sl h.s k).length vc) (bx sl h.s k).length ((bx sl h.s k).map (.int .i64))/\W.heap.size<=wr.heap.size/\Below w.heap.size w wr) (λi _=>60 - (intOf i).toNat)
  case atStart=>exact⟨0,none,0,by omega,rfl,GW,HW,RW,FW,UW,XW,⟨by simp[bx],.inl ⟨rfl,by simp[bx]⟩⟩,Nat.le_refl _,BW⟩
  case round=>
   obtain⟨k,vs,vc,hk,rfl,GR,HR,RR,FR,UR,XR,OR,zR,BR⟩:=hrel;clear GW HW RW FW UW XW BW;have IR:=hs.below BR (Nat.le_refl _);have JR:=ht.below BR (Nat.le_refl _);obtain⟨⟨g0,g1,g2,g3,g4,g5,g6⟩,gz⟩:=id GR;obtain⟨⟨k0,k1,k2,k3,k4,k5,k6⟩,kz⟩:=id HR;obtain⟨⟨u0,u1,u2,u3,u4,u5,u6⟩,uz⟩:=id UR;simp only[Nat.zero_add] at g0 g1 g2 g3 g4 g5 g6 k0 k1 k2 k3 k4 k5 k6 u0 u1 u2 u3 u4 u5 u6;by_cases hlt:k < 60
   ·have n1:(k:Int) < 60:=by omega
    exact rJ
   ·have hk':k=60:=by omega
    subst hk';obtain⟨⟨r0,r1,r2,r3,r4,r5,r6⟩,rz⟩:=id RR;simp only[Nat.zero_add,bn] at r0 r1 r2 r3 r4 r5 r6;have fz:=FR.1;go_wp2;refine bodyPost_ret (v:=.agg #[.bool (n||h.n),.bool J.n,.int .i64 J.lo,.int .i64 J.hi,.bool (t||h.t),.bool (f||h.f),.slice vs (bx sl h.s 60).length vc]) (by simp[results,Tryz.results114,go_sem,r0,r1,r2,r3,r4,r5,r6]) rfl ⟨_,rfl,?_,?_⟩
    ·exact eZ (fa OR (by omega)) (by omega)
    ·exact aZ BR (by omega)
 ·go_simp
  have GA:=(G1.alloc (.cells #[.bool false,.bool false,.int .i64 0,.int .i64 0,.bool false,.bool false,.slice none 0 0] 91)).drew;have HA:=(H1.alloc (.cells #[.bool false,.bool false,.int .i64 0,.int .i64 0,.bool false,.bool false,.slice none 0 0] 91)).drew;have RA:=(R1.alloc (.cells #[.bool false,.bool false,.int .i64 0,.int .i64 0,.bool false,.bool false,.slice none 0 0] 91)).drew;have FA:=(F1.alloc (.cells #[.bool false,.bool false,.int .i64 0,.int .i64 0,.bool false,.bool false,.slice none 0 0] 91)).drew;have BA:=(B1.alloc B1.size (.cells #[.bool false,.bool false,.int .i64 0,.int .i64 0,.bool false,.bool false,.slice none 0 0] 91)).drew;have UA:GuAt (w1.alloc (.cells #[.bool false,.bool false,.int .i64 0,.int .i64 0,.bool false,.bool false,.slice none 0 0] 91)).drew w1.heap.size 0 bn none 0:=(GuAt.new w1 bn none 0).drew;have XA:Fr7 (w1.alloc (.cells #[.bool false,.bool false,.int .i64 0,.int .i64 0,.bool false,.bool false,.slice none 0 0] 91)).drew w1.heap.size:=Fr7.drew ⟨λj=>by simp[go_sem],by simp⟩;have zo:w.heap.size+1+1 < w1.heap.size:=F1.2;refine hK.out _ _ (KS _ GA HA) (λhHeld=> ?_);clear hK K G1 H1 R1 F1 B1;refine sm ?_;refine wpAnyH_ready (rs:=[11]) (by kernel_rfl) (by simp) ?_;refine AllReadyH.cons rfl (λK hK=> ?_) AllReadyH.nil;go_simp;refine(HJ.out _).mono ?_;rintro e w2 ⟨rfl,hb2⟩;have G2:=GA.call hb2;have H2:=HA.call hb2;have R2:=RA.call hb2;have F2:=FA.call hb2;have U2:=UA.call hb2;have X2:=XA.call hb2;have B2:Below w.heap.size w w2:=BA.trans (hb2.mono BA.size);clear hb2 GA HA RA FA BA UA XA;generalize w1.heap.size=ob at *;refine hK.out _ _ (KS _ G2 H2) (λhHeld=> ?_);clear hK K;refine sm ?_;refine vH 14 ?_ ?_;refine wpAnyH_take (i:=15) (v:=if t=true then undef else .pointer (some ⟨w.heap.size+1,4,none⟩)) rfl (by kernel_rfl) (by kernel_rfl) (by kernel_rfl) (λ_ _ _ h=>h) ?_ (by assumption) ?_
  ·cases t
   ·refine Or.inl ⟨?_,?_⟩
    ·rfl
    ·(intro w hSw;(try dsimp only at hSw);first|(go_simp;done)|(go_simp;with_reducible rfl))
   ·exact Or.inr ⟨rfl,rfl⟩
  refine sm ?_;refine wpAnyH_take (i:=16) (v:=if t=true then undef else .bool h.t) rfl (by kernel_rfl) (by kernel_rfl) (by kernel_rfl) (λ_ _ _ h=>h) ?_ (by assumption) ?_
  ·cases t
   ·refine Or.inl ⟨?_,?_⟩
    ·rfl
    ·(intro w hSw;(try dsimp only at hSw);first|(go_simp;done)|(go_simp;with_reducible rfl))
   ·exact Or.inr ⟨rfl,rfl⟩
  refine sm ?_;refine wpAnyH_take (i:=17) (v:=.bool (t||h.t)) rfl (by kernel_rfl) (by kernel_rfl) (by kernel_rfl) (λ_ _ _ h=>h) ?_ (by assumption) ?_
  ·cases t
   ·refine Or.inl ⟨?_,?_⟩
    ·rfl
    ·(intro w hSw;(try dsimp only at hSw);first|(go_simp;done)|(go_simp;with_reducible rfl))
   ·refine Or.inl ⟨?_,?_⟩
    ·rfl
    ·(intro w hSw;(try dsimp only at hSw);first|(go_simp;done)|(go_simp;with_reducible rfl))
  refine sm ?_;refine vH 20 ?_ ?_;refine wpAnyH_take (i:=21) (v:=if f=true then undef else .pointer (some ⟨w.heap.size+1,5,none⟩)) rfl (by kernel_rfl) (by kernel_rfl) (by kernel_rfl) (λ_ _ _ h=>h) ?_ (by assumption) ?_
  ·cases f
   ·refine Or.inl ⟨?_,?_⟩
    ·rfl
    ·(intro w hSw;(try dsimp only at hSw);first|(go_simp;done)|(go_simp;with_reducible rfl))
   ·exact Or.inr ⟨rfl,rfl⟩
  refine sm ?_;refine wpAnyH_take (i:=22) (v:=if f=true then undef else .bool h.f) rfl (by kernel_rfl) (by kernel_rfl) (by kernel_rfl) (λ_ _ _ h=>h) ?_ (by assumption) ?_
  ·cases f
   ·refine Or.inl ⟨?_,?_⟩
    ·rfl
    ·(intro w hSw;(try dsimp only at hSw);first|(go_simp;done)|(go_simp;with_reducible rfl))
   ·exact Or.inr ⟨rfl,rfl⟩
  refine sm ?_;refine wpAnyH_take (i:=23) (v:=.bool (f||h.f)) rfl (by kernel_rfl) (by kernel_rfl) (by kernel_rfl) (λ_ _ _ h=>h) ?_ (by assumption) ?_
  ·cases f
   ·refine Or.inl ⟨?_,?_⟩
    ·rfl
    ·(intro w hSw;(try dsimp only at hSw);first|(go_simp;done)|(go_simp;with_reducible rfl))
   ·refine Or.inl ⟨?_,?_⟩
    ·rfl
    ·(intro w hSw;(try dsimp only at hSw);first|(go_simp;done)|(go_simp;with_reducible rfl))
  refine sm ?_;refine vH 24 ?_ ?_;obtain⟨⟨o0,o1,o2,o3,o4,o5,o6⟩,oz⟩:=id U2;simp only[Nat.zero_add,bn] at o0 o1 o2 o3 o4 o5 o6;have fzo:=X2.1;refine wpAnyH_ready (rs:=[26]) (by kernel_rfl) (by simp) ?_;refine AllReadyH.cons rfl (λK hK=> ?_) AllReadyH.nil;go_simp;have GW:=GuAt.put7 (b:=ob) (v0:=.bool (n||h.n)) (v1:=.bool J.n) (v2:=.int .i64 J.lo) (v3:=.int .i64 J.hi) (v4:=.bool (t||h.t)) (v5:=.bool (f||h.f)) (v6:=.slice none 0 0) G2 (by omega);have HW:=GuAt.put7 (b:=ob) (v0:=.bool (n||h.n)) (v1:=.bool J.n) (v2:=.int .i64 J.lo) (v3:=.int .i64 J.hi) (v4:=.bool (t||h.t)) (v5:=.bool (f||h.f)) (v6:=.slice none 0 0) H2 (by omega);have RW:=GuAt.put7 (b:=ob) (v0:=.bool (n||h.n)) (v1:=.bool J.n) (v2:=.int .i64 J.lo) (v3:=.int .i64 J.hi) (v4:=.bool (t||h.t)) (v5:=.bool (f||h.f)) (v6:=.slice none 0 0) R2 (by omega);have FW:Fr7 (gG w2 ob (.bool (n||h.n)) (.bool J.n) (.int .i64 J.lo) (.int .i64 J.hi) (.bool (t||h.t)) (.bool (f||h.f)) (.slice none 0 0)) (w.heap.size+1+1):=((((((F2.set).set).set).set).set).set).set;have XW:Fr7 (gG w2 ob (.bool (n||h.n)) (.bool J.n) (.int .i64 J.lo) (.int .i64 J.hi) (.bool (t||h.t)) (.bool (f||h.f)) (.slice none 0 0)) ob:=((((((X2.set).set).set).set).set).set).set;have UW:GuAt (gG w2 ob (.bool (n||h.n)) (.bool J.n) (.int .i64 J.lo) (.int .i64 J.hi) (.bool (t||h.t)) (.bool (f||h.f)) (.slice none 0 0)) ob 0 ⟨n||h.n,J,t||h.t,f||h.f,bx sl h.s 0⟩ none 0:=⟨by simp[go_sem,gG,o0,o1,o2,o3,o4,o5,o6,bx],by rw[mK];exact oz⟩;have BW:Below w.heap.size w (gG w2 ob (.bool (n||h.n)) (.bool J.n) (.int .i64 J.lo) (.int .i64 J.hi) (.bool (t||h.t)) (.bool (f||h.f)) (.slice none 0 0)):=aZ B2 (by omega);refine hK.out _ _ (KS _ GW HW) (λhHeld=> ?_);have zw:=XW.2;clear hK K G2 H2 R2 F2 U2 X2 B2 o0 o1 o2 o3 o4 o5 o6 fzo oz;refine sm ?_;unfold gG at GW HW RW FW XW UW BW zw;generalize ((((((w2.setCell ⟨ob,0,none⟩ (.bool (n||h.n))).setCell ⟨ob,1,none⟩ (.bool J.n)).setCell ⟨ob,2,none⟩ (.int .i64 J.lo)).setCell ⟨ob,3,none⟩ (.int .i64 J.hi)).setCell ⟨ob,4,none⟩ (.bool (t||h.t))).setCell ⟨ob,5,none⟩ (.bool (f||h.f))).setCell ⟨ob,6,none⟩ (.slice none 0 0)=W at *;refine wpAnyH_done (by kernel_rfl) ?_ _;generalize (if n=true then undef else(.pointer (some ⟨w.heap.size+1,0,none⟩):Value))=y0;generalize (if n=true then undef else(.bool h.n:Value))=y1;generalize (if t=true then undef else(.pointer (some ⟨w.heap.size+1,4,none⟩):Value))=y2;generalize (if t=true then undef else(.bool h.t:Value))=y3;generalize (if f=true then undef else(.pointer (some ⟨w.heap.size+1,5,none⟩):Value))=y4;generalize (if f=true then undef else(.bool h.f:Value))=y5;clear hHeld KS HJ;go_wp2;go_loopw [8] (λi wr=>∃(k:Nat) (vs:oA) (vc:Nat),k<=60/\i=.int .i64 k/\GuAt wr w.heap.size 0 ⟨n,sp,t,f,sl⟩ ss gc/\GuAt wr (w.heap.size+1) 0 h st hc/\GuAt wr (w.heap.size+1+1) 0 bn none 0/\Fr7 wr (w.heap.size+1+1)/\GuAt wr ob 0 ⟨n||h.n,J,t||h.t,f||h.f,bx sl h.s k⟩ vs vc/\Fr7 wr ob/\wr.ownsRow W.heap.size 3 1 (.slice vs (bx sl h.s k).length vc) (bx sl h.s k).length ((bx sl h.s k).map (.int .i64))/\W.heap.size<=wr.heap.size/\Below w.heap.size w wr) (λi _=>60 - (intOf i).toNat)
  case atStart=>exact⟨0,none,0,by omega,rfl,GW,HW,RW,FW,UW,XW,⟨by simp[bx],.inl ⟨rfl,by simp[bx]⟩⟩,Nat.le_refl _,BW⟩
  case round=>
   obtain⟨k,vs,vc,hk,rfl,GR,HR,RR,FR,UR,XR,OR,zR,BR⟩:=hrel;clear GW HW RW FW UW XW BW;have IR:=hs.below BR (Nat.le_refl _);have JR:=ht.below BR (Nat.le_refl _);obtain⟨⟨g0,g1,g2,g3,g4,g5,g6⟩,gz⟩:=id GR;obtain⟨⟨k0,k1,k2,k3,k4,k5,k6⟩,kz⟩:=id HR;obtain⟨⟨u0,u1,u2,u3,u4,u5,u6⟩,uz⟩:=id UR;simp only[Nat.zero_add] at g0 g1 g2 g3 g4 g5 g6 k0 k1 k2 k3 k4 k5 k6 u0 u1 u2 u3 u4 u5 u6;by_cases hlt:k < 60
   ·have n1:(k:Int) < 60:=by omega
    exact rJ
   ·have hk':k=60:=by omega
    subst hk';obtain⟨⟨r0,r1,r2,r3,r4,r5,r6⟩,rz⟩:=id RR;simp only[Nat.zero_add,bn] at r0 r1 r2 r3 r4 r5 r6;have fz:=FR.1;go_wp2;refine bodyPost_ret (v:=.agg #[.bool (n||h.n),.bool J.n,.int .i64 J.lo,.int .i64 J.hi,.bool (t||h.t),.bool (f||h.f),.slice vs (bx sl h.s 60).length vc]) (by simp[results,Tryz.results114,go_sem,r0,r1,r2,r3,r4,r5,r6]) rfl ⟨_,rfl,?_,?_⟩
    ·exact eZ (fa OR (by omega)) (by omega)
    ·exact aZ BR (by omega)):p:=h
end
section
theorem lw:∀(a b:List Int),a.Pairwise (· < ·)->b.Pairwise (· < ·)->(∀x,x∈a↔x∈b)->a=b
 |[],[],_,_,_=>rfl
 |[],y::b,_,_,h=>absurd ((h y).2 (by simp)) (by simp)
 |x::a,[],_,_,h=>absurd ((h x).1 (by simp)) (by simp)
 |x::a,y::b,ha,hb,h=>by
  rw[List.pairwise_cons] at ha hb;have exy:x=y:=by
   have h1:=(h x).1 (by simp);have h2:=(h y).2 (by simp);rw[j8] at h1 h2;rcases h1 with e|h1
   ·exact e
   ·rcases h2 with e|h2
    ·exact e.symm
    ·have:=ha.1 y h2
     have:=hb.1 x h1;omega
  subst exy;rw[lw a b ha.2 hb.2 λz=> ?_];constructor
  ·intro hz
   have:=(h z).1 (by simp[hz]);rw[j8] at this;rcases this with e|h1
   ·have:=ha.1 z hz;omega
   ·exact h1
  ·intro hz
   have:=(h z).2 (by simp[hz]);rw[j8] at this;rcases this with e|h1
   ·have:=hb.1 z hz;omega
   ·exact h1

theorem sF (a b:List Int)(k:Nat)(x:Int):x∈bx a b k↔(0<=x/\x < k)/\(x∈a\/x∈b):=by
 unfold bx;rw[j3,q9];simp only[j4,Bool.or_eq_true,List.contains_iff_mem];constructor
 ·rintro ⟨⟨n,hn,rfl⟩,h⟩
  exact⟨⟨by omega,by omega⟩,h⟩
 ·rintro ⟨⟨h0,h1⟩,h⟩
  exact⟨⟨x.toNat,by omega,by omega⟩,h⟩

theorem nc (a b:List Int)(k:Nat):(bx a b k).Pairwise (· < ·):=by
 unfold bx;refine j5.filter _ ?_;rw[z0];exact j5.imp (λh=>by omega) z1

open Go.Lib in
theorem tx (l:List Int)(h:l.Pairwise (· <=·)):(compact l).Pairwise (· < ·)/\∀x,x∈compact l↔x∈l:=by
 have get:∀j (hj:j < l.length),l.toArray[j]! =l[j]:=λj hj=>by simp[hj]
 have mono:∀i j (hi:i < l.length) (hj:j < l.length),i<=j->l[i]<=l[j]:=by
  intro i j hi hj hij;by_cases e:i=j
  ·subst e;exact Int.le_refl _
  ·exact List.pairwise_iff_getElem.1 h i j hi hj (by omega)
 constructor
 ·unfold compact compactUpTo
  rw[z0];refine j5.imp_of_mem ?_ (j5.filter _ z1);intro i j hi hj hij;rw[j3,j4] at hi hj;rw[get i hi.1,get j hj.1];have hk:=hj.2;unfold keeps at hk;rw[decide_eq_true_eq] at hk;rcases hk with e|hne
  ·omega
  ·rw[get j hj.1,get (j - 1) (by omega)] at hne
   have h1:=mono i (j - 1) hi.1 (by omega) (by omega);have h2:=mono (j - 1) j (by omega) hj.1 (by omega);omega
 ·intro x
  unfold compact compactUpTo;rw[q9];constructor
  ·rintro ⟨j,hj,rfl⟩
   rw[j3,j4] at hj;rw[get j hj.1];exact gM _
  ·intro hx
   obtain⟨j,hj,rfl⟩:=List.getElem_of_mem hx;have ex:∃i,i<=j/\∃(hi:i < l.length),l[i]=l[j]/\keeps l.toArray i=true:=by
    clear hx
    induction j with
    |zero=>exact⟨0,lR _,hj,rfl,by simp[keeps]⟩
    |succ j ih=>
     by_cases e:l[j+1]=l[j]
     ·obtain⟨i,hi,hil,h1,h2⟩:=ih (by omega)
      exact⟨i,by omega,hil,by rw[h1,e],h2⟩
     ·refine⟨j+1,lR _,hj,rfl,?_⟩
      unfold keeps;rw[decide_eq_true_eq];right;rw[get (j+1) hj,get (j+1 - 1) (by omega)];exact e
   obtain⟨i,-,hil,h1,h2⟩:=ex;refine⟨i,?_,by rw[get i hil,h1]⟩;rw[j3,j4];exact⟨hil,h2⟩

theorem iN (g h:Gs)(hg:∀x∈g.s,0<=x/\x < 60)(hh:∀x∈h.s,0<=x/\x < 60):cq [g,h]=bx g.s h.s 60:=by
 have hs:(([g,h].flatMap Gs.s).mergeSort λx y=>decide (x<=y)).Pairwise (· <=·):=by
  have:=List.pairwise_mergeSort (le:=λx y:Int=>decide (x<=y)) (by intro a b c;simp;omega) (by intro a b;simp;omega) ([g,h].flatMap Gs.s);exact this.imp λh=>by simpa using h
 obtain⟨h1,h2⟩:=tx _ hs;refine lw _ _ h1 (nc _ _ _) λx=> ?_;rw[show cq [g,h]=Go.Lib.compact (([g,h].flatMap Gs.s).mergeSort λx y=>decide (x<=y)) from rfl,h2,List.mem_mergeSort,sF];simp only[List.flatMap_cons,List.flatMap_nil,q8,List.mem_append];constructor
 ·rintro (h|h)
  ·exact⟨hg x h,.inl h⟩
  ·exact⟨hh x h,.inr h⟩
 ·exact λh=>h.2

theorem DP {c:List Ins}(hl:c.length<=60){x:Int}(h:bV c x=true):0<=x/\x < 60:=by
 unfold bV at h;simp only[Bool.and_eq_true,decide_eq_true_eq] at h;omega

theorem cI {c:List Ins}{g:Gs}(hl:c.length<=60)(h:aq c g=0):(∀x∈g.s,0<=x/\x < 60)/\cT g.s=true:=by
 unfold aq at h;split at h
 ·contradiction
 ·split at h
  ·cases h
  ·split at h
   ·cases h
   ·rename_i h1 h2
    refine⟨λx hx=> ?_,by simpa using h2⟩;have:g.s.all (bV c)=true:=by simpa using h1
    exact DP hl (List.all_eq_true.1 this x hx)
theorem cy {l:List Int}(hr:cT l=true)(hb:∀x∈l,0<=x/\x < 60):l.length<=60:=by
 have key:∀k (h:k < l.length),(k:Int)<=l[k]:=by
  intro k
  induction k with
  |zero=>intro h;exact(hb _ (gM h)).1
  |succ k ih=>
   intro h;have h1:=ih (by omega);have h2:=(rK l).1 hr k h;omega
 by_cases h0:l.length=0
 ·omega
 ·have h1:=key (l.length - 1) (by omega)
  have h2:=(hb _ (gM (show l.length - 1 < l.length by omega))).2;omega
end
section
open Go.RowKit
theorem Hi (V F:Int)(s:oA)(c:List Ins)(cap:Nat)(g:Gs)(ss:oA)(gc:Nat)(h:Gs)(st:oA)(hc:Nat)(kind:Int)(w:World)
  (hcd:CodeAt w s c)(hs:IntsAt w ss g.s)(h1:g.s.length<=gc)(h2:gc<=maxLen)(ht:IntsAt w st h.s)(h3:h.s.length<=hc)(h4:hc<=maxLen)(hck:aQ V F c [g,h]≠0):
  Calls pG 164 #[pv V F s c cap,I Y kind,gv g ss gc,gv h st hc] w λe w'=>e=Rt (Tu #[gv bn nO 0,Bb false,I Y (aQ V F c [g,h])])/\Below w.heap.size w w':=by
 obtain⟨P0,G0,H0,R0,F0⟩:=dV w V F s c cap g ss gc h st hc;have B0:=cP w V F s c cap g ss gc h st hc;have C0:CodeAt (bD w V F s c cap g ss gc h st hc) s c:=hcd.below B0 (lR _);have I0:IntsAt (bD w V F s c cap g ss gc h st hc) ss g.s:=hs.below B0 (lR _);have J0:IntsAt (bD w V F s c cap g ss gc h st hc) st h.s:=ht.below B0 (lR _);have L0:=GsAt.new2 (bD w V F s c cap g ss gc h st hc) g ss gc h st hc I0 h1 h2 J0 h3 h4;simp only[zA] at L0;have HC:=aa (bW V F s c cap (sO ⟨w.heap.size+1+1+1+1,0,nO⟩) [g,h] 2 _ (C0.alloc _) L0 (by simp));have hne:(aQ V F c [g,h]!=0)=true:=by simpa using hck
 generalize aQ V F c [g,h]=ce at HC hne |-;clear hck;go_enter Tryz.func164,Tryz.ntmps164;go_wp2_with (go_at_call 142;fail);refine HC.out.mono ?_;rintro e w1 ⟨rfl,hb1⟩;have G1:=(G0.alloc _).call hb1;have H1:=(H0.alloc _).call hb1;have R1:=(R0.alloc _).call hb1;have I1:=(I0.alloc _).call hb1;have J1:=(J0.alloc _).call hb1;have F1:Fr7 w1 (w.heap.size+1+1+1):=(F0.alloc _).call hb1;have B1:Below w.heap.size w w1:=(B0.alloc B0.size _).trans (hb1.mono (by simp;omega));clear hb1 G0 H0 R0 I0 J0 F0 B0 C0 P0 L0 hcd hs ht HC;obtain⟨⟨g0,g1,g2,g3,g4,g5,g6⟩,gz⟩:=id G1;obtain⟨⟨k0,k1,k2,k3,k4,k5,k6⟩,kz⟩:=id H1;simp only[j0] at g0 g1 g2 g3 g4 g5 g6 k0 k1 k2 k3 k4 k5 k6;obtain⟨⟨r0,r1,r2,r3,r4,r5,r6⟩,rz⟩:=id R1;simp only[j0,bn] at r0 r1 r2 r3 r4 r5 r6;have fz:=F1.1;go_wp2;refine bodyPost_ret (v:=Tu #[gv bn nO 0,Bb false,I Y ce]) (by simp[results,Tryz.results164,go_sem,r0,r1,r2,r3,r4,r5,r6,bn]) rfl ⟨rfl,?_⟩;exact aZ B1 (by omega)

theorem Fp (V F:Int)(s:oA)(c:List Ins)(cap:Nat)(g:Gs)(ss:oA)(gc:Nat)(h:Gs)(st:oA)(hc:Nat)(kind:Int)(w:World)
  (hcd:CodeAt w s c)(hs:IntsAt w ss g.s)(h1:g.s.length<=gc)(h2:gc<=maxLen)(ht:IntsAt w st h.s)(h3:h.s.length<=hc)(h4:hc<=maxLen)(hck:aQ V F c [g,h]=0)(hk4:(kind==4)=false)(hk5:(kind==5)=false)(hk6:(kind==6)=false)(hk7:(kind==7)=false)(hk8:(kind==8)=false)(hk9:(kind==9)=false)(hk10:(kind==10)=false):
  Calls pG 164 #[pv V F s c cap,I Y kind,gv g ss gc,gv h st hc] w λe w'=>e=Rt (Tu #[gv bn nO 0,Bb false,I Y 6])/\Below w.heap.size w w':=by
 obtain⟨P0,G0,H0,R0,F0⟩:=dV w V F s c cap g ss gc h st hc;have B0:=cP w V F s c cap g ss gc h st hc;have C0:CodeAt (bD w V F s c cap g ss gc h st hc) s c:=hcd.below B0 (lR _);have I0:IntsAt (bD w V F s c cap g ss gc h st hc) ss g.s:=hs.below B0 (lR _);have J0:IntsAt (bD w V F s c cap g ss gc h st hc) st h.s:=ht.below B0 (lR _);have L0:=GsAt.new2 (bD w V F s c cap g ss gc h st hc) g ss gc h st hc I0 h1 h2 J0 h3 h4;simp only[zA] at L0;have HC:=aa (bW V F s c cap (sO ⟨w.heap.size+1+1+1+1,0,nO⟩) [g,h] 2 _ (C0.alloc _) L0 (by simp));rw[hck] at HC;go_enter Tryz.func164,Tryz.ntmps164;go_wp2_with (go_at_call 142;fail);refine HC.out.mono ?_;rintro e w1 ⟨rfl,hb1⟩;have G1:=(G0.alloc _).call hb1;have H1:=(H0.alloc _).call hb1;have R1:=(R0.alloc _).call hb1;have I1:=(I0.alloc _).call hb1;have J1:=(J0.alloc _).call hb1;have F1:Fr7 w1 (w.heap.size+1+1+1):=(F0.alloc _).call hb1;have B1:Below w.heap.size w w1:=(B0.alloc B0.size _).trans (hb1.mono (by simp;omega));clear hb1 G0 H0 R0 I0 J0 F0 B0 C0 P0 L0 hcd hs ht HC;obtain⟨⟨g0,g1,g2,g3,g4,g5,g6⟩,gz⟩:=id G1;obtain⟨⟨k0,k1,k2,k3,k4,k5,k6⟩,kz⟩:=id H1;simp only[j0] at g0 g1 g2 g3 g4 g5 g6 k0 k1 k2 k3 k4 k5 k6;obtain⟨⟨r0,r1,r2,r3,r4,r5,r6⟩,rz⟩:=id R1;simp only[j0,bn] at r0 r1 r2 r3 r4 r5 r6;have fz:=F1.1;go_wp2;refine bodyPost_ret (v:=Tu #[gv bn nO 0,Bb false,I Y 6]) (by simp[results,Tryz.results164,go_sem,r0,r1,r2,r3,r4,r5,r6,bn]) rfl ⟨rfl,?_⟩;exact aZ B1 (by omega)

theorem Ha (V F:Int)(s:oA)(c:List Ins)(cap:Nat)(g:Gs)(ss:oA)(gc:Nat)(h:Gs)(st:oA)(hc:Nat)(w:World)
  (hcd:CodeAt w s c)(hs:IntsAt w ss g.s)(h1:g.s.length<=gc)(h2:gc<=maxLen)(ht:IntsAt w st h.s)(h3:h.s.length<=hc)(h4:hc<=maxLen)(hck:aQ V F c [g,h]=0)(y n:Bool)(hS:∀wx,Below w.heap.size w wx->Calls pG 206 #[gv g ss gc,gv h st hc] wx λe w'=>e=Rt (Tu #[Bb y,Bb n])/\Below wx.heap.size wx w'):
  Calls pG 164 #[pv V F s c cap,I Y 9,gv g ss gc,gv h st hc] w λe w'=>e=Rt (Tu #[gv ⟨false,⟨true,0,0⟩,y,n,[]⟩ nO 0,Bb false,I Y 0])/\Below w.heap.size w w':=by
 obtain⟨P0,G0,H0,R0,F0⟩:=dV w V F s c cap g ss gc h st hc;have B0:=cP w V F s c cap g ss gc h st hc;have C0:CodeAt (bD w V F s c cap g ss gc h st hc) s c:=hcd.below B0 (lR _);have I0:IntsAt (bD w V F s c cap g ss gc h st hc) ss g.s:=hs.below B0 (lR _);have J0:IntsAt (bD w V F s c cap g ss gc h st hc) st h.s:=ht.below B0 (lR _);have L0:=GsAt.new2 (bD w V F s c cap g ss gc h st hc) g ss gc h st hc I0 h1 h2 J0 h3 h4;simp only[zA] at L0;have HC:=aa (bW V F s c cap (sO ⟨w.heap.size+1+1+1+1,0,nO⟩) [g,h] 2 _ (C0.alloc _) L0 (by simp));rw[hck] at HC;have HS:=aa hS;clear hS;go_enter Tryz.func164,Tryz.ntmps164;go_wp2_with (go_at_call 142;fail);refine HC.out.mono ?_;rintro e w1 ⟨rfl,hb1⟩;have G1:=(G0.alloc _).call hb1;have H1:=(H0.alloc _).call hb1;have R1:=(R0.alloc _).call hb1;have I1:=(I0.alloc _).call hb1;have J1:=(J0.alloc _).call hb1;have F1:Fr7 w1 (w.heap.size+1+1+1):=(F0.alloc _).call hb1;have B1:Below w.heap.size w w1:=(B0.alloc B0.size _).trans (hb1.mono (by simp;omega));clear hb1 G0 H0 R0 I0 J0 F0 B0 C0 P0 L0 hcd hs ht HC;obtain⟨⟨g0,g1,g2,g3,g4,g5,g6⟩,gz⟩:=id G1;obtain⟨⟨k0,k1,k2,k3,k4,k5,k6⟩,kz⟩:=id H1;simp only[j0] at g0 g1 g2 g3 g4 g5 g6 k0 k1 k2 k3 k4 k5 k6;go_wp2_with (go_at_call 206;fail);refine(HS.out _ B1).mono ?_;rintro e w2 ⟨rfl,hb2⟩;have R2:=R1.call hb2;have F2:=F1.call hb2;have B2:=B1.trans (hb2.mono B1.size);clear hb2;go_wp2_with (go_at_call 204;fail);refine(iX _ _ _).mono ?_;rintro e w3 ⟨rfl,hb3⟩;have R3:=R2.call hb3;have F3:=F2.call hb3;have B3:=B2.trans (hb3.mono B2.size);clear hb3;obtain⟨⟨r0,r1,r2,r3,r4,r5,r6⟩,rz⟩:=id R3;simp only[j0,bn] at r0 r1 r2 r3 r4 r5 r6;have fz:=F3.1;go_wp2;refine bodyPost_ret (v:=Tu #[gv ⟨false,⟨true,0,0⟩,y,n,[]⟩ nO 0,Bb false,I Y 0]) (by simp[results,Tryz.results164,go_sem,r0,r1,r2,r3,r4,r5,r6]) rfl ⟨rfl,?_⟩;exact aZ B3 (by omega)

theorem KB (V F:Int)(s:oA)(c:List Ins)(cap:Nat)(g:Gs)(ss:oA)(gc:Nat)(h:Gs)(st:oA)(hc:Nat)(w:World)
  (hcd:CodeAt w s c)(hs:IntsAt w ss g.s)(h1:g.s.length<=gc)(h2:gc<=maxLen)(ht:IntsAt w st h.s)(h3:h.s.length<=hc)(h4:hc<=maxLen)(hck:aQ V F c [g,h]=0)(hsp:ci g.sp=0):
  Calls pG 164 #[pv V F s c cap,I Y 10,gv g ss gc,gv h st hc] w λe w'=>e=Rt (Tu #[gv ⟨false,⟨true,0,0⟩,cA g,bT g,[]⟩ nO 0,Bb false,I Y 0])/\Below w.heap.size w w':=by
 obtain⟨P0,G0,H0,R0,F0⟩:=dV w V F s c cap g ss gc h st hc;have B0:=cP w V F s c cap g ss gc h st hc;have C0:CodeAt (bD w V F s c cap g ss gc h st hc) s c:=hcd.below B0 (lR _);have I0:IntsAt (bD w V F s c cap g ss gc h st hc) ss g.s:=hs.below B0 (lR _);have J0:IntsAt (bD w V F s c cap g ss gc h st hc) st h.s:=ht.below B0 (lR _);have L0:=GsAt.new2 (bD w V F s c cap g ss gc h st hc) g ss gc h st hc I0 h1 h2 J0 h3 h4;simp only[zA] at L0;have HC:=aa (bW V F s c cap (sO ⟨w.heap.size+1+1+1+1,0,nO⟩) [g,h] 2 _ (C0.alloc _) L0 (by simp));rw[hck] at HC;have HS:=aa (λw=>sj g ss gc w hsp);generalize bT g=y at HS |-;generalize cA g=n at HS |-;clear hsp;go_enter Tryz.func164,Tryz.ntmps164;go_wp2_with (go_at_call 142;fail);refine HC.out.mono ?_;rintro e w1 ⟨rfl,hb1⟩;have G1:=(G0.alloc _).call hb1;have H1:=(H0.alloc _).call hb1;have R1:=(R0.alloc _).call hb1;have I1:=(I0.alloc _).call hb1;have J1:=(J0.alloc _).call hb1;have F1:Fr7 w1 (w.heap.size+1+1+1):=(F0.alloc _).call hb1;have B1:Below w.heap.size w w1:=(B0.alloc B0.size _).trans (hb1.mono (by simp;omega));clear hb1 G0 H0 R0 I0 J0 F0 B0 C0 P0 L0 hcd hs ht HC;obtain⟨⟨g0,g1,g2,g3,g4,g5,g6⟩,gz⟩:=id G1;obtain⟨⟨k0,k1,k2,k3,k4,k5,k6⟩,kz⟩:=id H1;simp only[j0] at g0 g1 g2 g3 g4 g5 g6 k0 k1 k2 k3 k4 k5 k6;go_wp2_with (go_at_call 198;fail);refine(HS.out _).mono ?_;rintro e w2 ⟨rfl,hb2⟩;have R2:=R1.call hb2;have F2:=F1.call hb2;have B2:=B1.trans (hb2.mono B1.size);clear hb2;go_wp2_with (go_at_call 204;fail);refine(iX _ _ _).mono ?_;rintro e w3 ⟨rfl,hb3⟩;have R3:=R2.call hb3;have F3:=F2.call hb3;have B3:=B2.trans (hb3.mono B2.size);clear hb3;obtain⟨⟨r0,r1,r2,r3,r4,r5,r6⟩,rz⟩:=id R3;simp only[j0,bn] at r0 r1 r2 r3 r4 r5 r6;have fz:=F3.1;go_wp2;refine bodyPost_ret (v:=Tu #[gv ⟨false,⟨true,0,0⟩,n,y,[]⟩ nO 0,Bb false,I Y 0]) (by simp[results,Tryz.results164,go_sem,r0,r1,r2,r3,r4,r5,r6]) rfl ⟨rfl,?_⟩;exact aZ B3 (by omega)
end
end Go.Proofs.YtmapdpcfanecdabGreatDoor
