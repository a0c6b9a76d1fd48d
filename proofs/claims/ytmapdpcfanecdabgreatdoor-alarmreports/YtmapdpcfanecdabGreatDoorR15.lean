import Derived.Test.YtmapdpcfanecdabGreatDoorR13
open Bool renaming eq_false_or_eq_true→j6
open Go.Ending renaming returned→Rt
open Go.IntKind renaming i64→Y
open Go.Obj renaming cells→Cc
open Go.Proofs.Tryz renaming prog→pG
open Go.RowKit.Below renaming heap_setCell→hSe,refl→bR
open Go.Value renaming agg→Ag,bool→Bb,int→I,slice→U,tuple→Tu
open Go.World renaming size_alloc→zA
open List renaming Pairwise→j4,append_nil→q8,eq_nil_of_length_eq_zero→j8,filter_cons→q6,filter_nil→q7,getElem_mem→gM,map_append→q3,map_cons→q4,map_nil→q5,mem_cons→j7,mem_filter→j2,mem_map→q9,mem_range→j3,pairwise_lt_range→z1,pairwise_map→z0,take_of_length_le→j9,take_succ_eq_append_getElem→j1
open Nat renaming le_refl→lR,le_trans→lT,lt_of_lt_of_le→lL,zero_add→j0,zero_le→j5
open Option renaming none→nO,some→sO
set_option linter.unusedSimpArgs false
set_option linter.unusedVariables false
set_option maxHeartbeats 8000000
set_option maxRecDepth 100000
namespace Go.Proofs.YtmapdpcfanecdabGreatDoor
section
open Go.RowKit
attribute [local go_sem ↓] Go.wp_at_zero Go.wp_at_succ
def SameAns (e:Ending)(p:Prop):Prop:=∃b:Bool,e=Rt (Bb b)/\(b=true↔p)
theorem SameAns.no {p:Prop}(h:¬p):SameAns (Rt (Bb false)) p:=⟨false,rfl,⟨λe=>absurd e aj,λe=>absurd e h⟩⟩
theorem SameAns.yes {p:Prop}(h:p):SameAns (Rt (Bb true)) p:=⟨true,rfl,⟨λ_=>h,λ_=>rfl⟩⟩
theorem Kw {p:Prop} [Decidable p](h:¬p):Ending.returned (Bb false)=Rt (Bb (decide p)):=by rw[decide_eq_false h]
theorem M0 {p:Prop} [Decidable p](h:p):Ending.returned (Bb true)=Rt (Bb (decide p)):=by rw[decide_eq_true h]
theorem Ce (s1 s2:oA)(c1 c2:Nat)(a b:List Int)(w:World)(ha:a.length<=maxLen)(hb:b.length<=maxLen)(h1:IntsAt w s1 a)(h2:IntsAt w s2 b):
  Calls pG 184 #[U s1 a.length c1,U s2 b.length c2] w λe w'=>e=Rt (Bb (decide (a=b)))/\bl w w':=by
 by_cases hl:a.length=b.length
 ·by_cases hn:a=[]
  ·subst hn
   have hb0:b=[]:=j8 hl.symm;subst hb0;exact Cx s1 s2 c1 c2 w
  have hn2:b≠[]:=λe=>by rw[e] at hl;exact hn (j8 hl)
  rcases h1 with e|⟨b1,o1,rfl,b1lt,h1⟩
  ·exact absurd e hn
  rcases h2 with e|⟨b2,o2,rfl,b2lt,h2⟩
  ·exact absurd e hn2
  rw[<-hl];have HL:=ae hl;clear hl hn hn2;unfold maxLen at ha;go_enter Tryz.func184,Tryz.ntmps184;go_wp2;go_loopw [5] (λi wr=>∃k:Nat,k<=a.length/\i=I Y k/\Hid (a.take k=b.take k)/\bl w wr) (λi _=>a.length - (intOf i).toNat)
  case atStart=>exact⟨0,j5 _,rfl,rfl,bR _ _⟩
  case round=>
   obtain⟨k,hk,rfl,HE,hb⟩:=hrel;by_cases hlt:k < a.length
   ·have n0:(0:Int)<=(k:Int):=by omega
    have n1:(k:Int) < (a.length:Int):=aa;have hlb:k < b.length:=p5;obtain⟨x,hx⟩:∃x,x=a[k]:=⟨_,rfl⟩;obtain⟨y,hy⟩:∃y,y=b[k]:=⟨_,rfl⟩;have q0:wr.cell? ⟨b1,o1+k,nO⟩=sO (I Y x):=by rw[hb.cell (p:=⟨b1,_,nO⟩) b1lt,hx];exact h1 k hlt
    have r0:wr.cell? ⟨b2,o2+k,nO⟩=sO (I Y y):=by rw[hb.cell (p:=⟨b2,_,nO⟩) b2lt,hy];exact h2 k hlb
    have HXY:=ae (And.intro hx hy);clear h1 h2 hx hy;by_cases hxy:x=y
    ·have e1:(x !=y)=false:=by simpa using hxy
     have HQ:=ae hxy;clear hxy;go_wp2
     go_quiet (fail)
     go_wp2;go_roundw
     case rel=>exact⟨k+1,aa,aG,by show _=_;rw[j1 hlt,j1 hlb,HE.out,<-HXY.out.1,<-HXY.out.2,HQ.out],below_drewN hb _⟩
     case measure=>simp[intOf];omega
    ·have e1:(x !=y)=true:=by simpa using hxy
     have HQ:=ae hxy;clear hxy;go_wp2
     go_quiet (fail)
     go_wp2;go_ret;exact⟨Kw λe=>by subst e;exact HQ.out (HXY.out.1.trans HXY.out.2.symm),below_drewN hb _⟩
   ·have n1:¬(k:Int) < (a.length:Int):=by omega
    go_wp2;go_ret;exact⟨M0 EM,hb⟩
 ·have e1:((a.length:Int)!=(b.length:Int))=true:=by simpa using λh=>hl aa
  have HL:=ae hl;clear hl;go_enter Tryz.func184,Tryz.ntmps184;go_wp2;go_ret;exact⟨Kw λe=>HL.out (by rw[e]),bR _ _⟩
theorem An (g:Gs)(ss:oA)(gc:Nat)(h:Gs)(st:oA)(hc:Nat)(w:World)(hs:IntsAt w ss g.s)(ht:IntsAt w st h.s)(hgl:g.s.length<=maxLen)(hhl:h.s.length<=maxLen):
  Calls pG 126 #[gv g ss gc,gv h st hc] w λe w'=>SameAns e (g=h)/\bl w w':=by
 obtain⟨n,⟨a,b,c⟩,t,f,sl⟩:=g;obtain⟨n',⟨a',b',c'⟩,t',f',sl'⟩:=h;have HI:=ae (λwx (hb:bl w wx)=>Ce ss st gc hc sl sl' wx hgl hhl (hs.below hb (lR _)) (ht.below hb (lR _)));clear hs ht;go_enter Tryz.func126,Tryz.ntmps126;go_wp2_with (go_at_call 184;fail)
 ·refine(HI.out _ ai).mono ?_
  rintro e w1 ⟨rfl,hb1⟩;clear HI;go_wp2;go_ret;exact⟨⟨decide (sl=sl'),rfl,by simp_all⟩,Below.trans ai (hb1.mono ki)⟩
 all_goals go_ret
 all_goals exact⟨SameAns.no (by simp_all),ai⟩
theorem uP {p:Prop}(h:p:=by
 go_wp2;go_roundw
 case rel=>exact⟨k+1,aa,aG,by show _=_;rw[List.take_succ_eq_append_getElem hlt,List.take_succ_eq_append_getElem hlb,HE.out,HQ.out],hbr.trans (HB5.mono hbr.size)⟩
 case measure=>simp[intOf];omega):p:=h
theorem lW (a b:List Gs)(s1:oA)(c1:Nat)(s2:oA)(c2:Nat)(w:World)(ha:a.length<=maxLen)(h1:GsAt w s1 a)(h2:GsAt w s2 b):
  Calls pG 74 #[U s1 a.length c1,U s2 b.length c2] w λe w'=>SameAns e (a=b)/\bl w w':=by
 have hm:maxLen<=9223372036854775807:=aj;by_cases hl:a.length=b.length
 ·rw[<-hl]
  have HL:=ae hl;clear hl;go_enter Tryz.func74,Tryz.ntmps74;go_wp2;go_loopw [5] (λi wr=>∃k:Nat,k<=a.length/\i=I Y k/\Hid (a.take k=b.take k)/\bl w wr) (λi _=>a.length - (intOf i).toNat)
  case atStart=>exact⟨0,j5 _,rfl,rfl,bR _ _⟩
  case round=>
   obtain⟨k,hk,rfl,HE,hbr⟩:=hrel;by_cases hlt:k < a.length
   ·have n0:(0:Int)<=(k:Int):=by omega
    have n1:(k:Int) < (a.length:Int):=aa;have hlb:k < b.length:=p5;obtain⟨b1,o1,rfl,ss1,g1,G1,I1,k1,m1⟩:=h1.below hbr (lR _) k hlt;obtain⟨b2,o2,rfl,ss2,g2,G2,I2,k2,m2⟩:=h2.below hbr (lR _) k hlb;have HSG:=ae (λwx (q1:IntsAt wx ss1 a[k].s) (q2:IntsAt wx ss2 b[k].s)=>An a[k] ss1 g1 b[k] ss2 g2 wx q1 q2 (lT k1 m1) (lT k2 m2));have HKZ:=ae (λwx (hx:bl wr wx)=>And.intro (G1.call hx).1 (G2.call hx).1);have HD:bl wr wr.drew:=(bR _ _).drew;go_wp2;refine aH (S:=(λwx=>(wx.cell? ⟨b1,o1+k * 7,nO⟩=sO (Bb a[k].n)/\wx.cell? ⟨b1,o1+k * 7+1,nO⟩=sO (Bb a[k].sp.n)/\wx.cell? ⟨b1,o1+k * 7+2,nO⟩=sO (I Y a[k].sp.lo)/\wx.cell? ⟨b1,o1+k * 7+3,nO⟩=sO (I Y a[k].sp.hi)/\wx.cell? ⟨b1,o1+k * 7+4,nO⟩=sO (Bb a[k].t)/\wx.cell? ⟨b1,o1+k * 7+5,nO⟩=sO (Bb a[k].f)/\wx.cell? ⟨b1,o1+k * 7+6,nO⟩=sO (U ss1 a[k].s.length g1))/\(wx.cell? ⟨b2,o2+k * 7,nO⟩=sO (Bb b[k].n)/\wx.cell? ⟨b2,o2+k * 7+1,nO⟩=sO (Bb b[k].sp.n)/\wx.cell? ⟨b2,o2+k * 7+2,nO⟩=sO (I Y b[k].sp.lo)/\wx.cell? ⟨b2,o2+k * 7+3,nO⟩=sO (I Y b[k].sp.hi)/\wx.cell? ⟨b2,o2+k * 7+4,nO⟩=sO (Bb b[k].t)/\wx.cell? ⟨b2,o2+k * 7+5,nO⟩=sO (Bb b[k].f)/\wx.cell? ⟨b2,o2+k * 7+6,nO⟩=sO (U ss2 b[k].s.length g2)))) [] ag (HKZ.out _ HD) (λhHeld=> ?_);refine vZ 0 ?_ ?_;refine vZ 1 ?_ ?_;refine vZ 2 ?_ ?_;refine vZ 3 ?_ ?_;refine vZ 4 ?_ ?_;refine vZ 5 ?_ ?_;refine vZ 6 ?_ ?_;refine vZ 7 ?_ ?_;refine aB (i:=8) rfl ag (λK hK=> ?_);go_simp;go_at_call 126;refine(HSG.out _ (I1.call HD) (I2.call HD)).mono ?_;rintro e w5 ⟨⟨bb,rfl,HBB0⟩,hb5⟩;have HBB:=ae HBB0;clear HBB0;have HB5:bl wr w5:=HD.trans (hb5.mono HD.size);go_wp2_with fail;refine hK.out _ _ (HKZ.out _ HB5) (λhHeld=> ?_);clear hK K;refine sm ?_;refine vZ 9 ?_ ?_;refine aD ag ?_ _;rcases j6 bb with e1|e1
    ·have HQ:=ae (HBB.out.1 e1)
     subst e1;exact uP
    ·have HQ:Hid (¬a[k]=b[k]):=λh=>by rw[HBB.out.2 h] at e1;cases e1
     subst e1;go_wp2;go_ret;exact⟨SameAns.no λe=>HQ.out (by subst e;rfl),hbr.trans (HB5.mono hbr.size)⟩
   ·have n1:¬(k:Int) < (a.length:Int):=by omega
    go_wp2;go_ret;exact⟨SameAns.yes EM,hbr⟩
 ·have e1:((a.length:Int)!=(b.length:Int))=true:=by simpa using λh=>hl aa
  have HL:=ae hl;clear hl;go_enter Tryz.func74,Tryz.ntmps74;go_wp2;go_ret;exact⟨SameAns.no λe=>HL.out (by rw[e]),bR _ _⟩
theorem vU (x y:Pic)(vs1:oA)(vc1:Nat)(fs1:oA)(fc1:Nat)(vs2:oA)(vc2:Nat)(fs2:oA)(fc2:Nat)(w:World)(hl:Oo x)(h1:PicAt w x vs1 fs1)(h2:PicAt w y vs2 fs2):
  Calls pG 34 #[xv x vs1 vc1 fs1 fc1,xv y vs2 vc2 fs2 fc2] w λe w'=>SameAns e (x=y)/\bl w w':=by
 obtain⟨hl1,hl2⟩:=hl;have hm:maxLen<=9223372036854775807:=aj;have hb0:Below w.heap.size w ((w.alloc (Cc #[Bb x.none,U vs1 x.vars.length vc1,U fs1 x.flds.length fc1] 28)).alloc (Cc #[Bb y.none,U vs2 y.vars.length vc2,U fs2 y.flds.length fc2] 28)):=ai;have A0:=(XAt.new w x vs1 vc1 fs1 fc1).call (w':=((w.alloc (Cc #[Bb x.none,U vs1 x.vars.length vc1,U fs1 x.flds.length fc1] 28)).alloc (Cc #[Bb y.none,U vs2 y.vars.length vc2,U fs2 y.flds.length fc2] 28))) ai;have B0:=XAt.new (w.alloc (Cc #[Bb x.none,U vs1 x.vars.length vc1,U fs1 x.flds.length fc1] 28)) y vs2 vc2 fs2 fc2;rw[zA] at B0;have hP1:=h1.below hb0 (lR _);have hP2:=h2.below hb0 (lR _);have HS:=ae (lW x.vars y.vars vs1 vc1 vs2 vc2 ((w.alloc (Cc #[Bb x.none,U vs1 x.vars.length vc1,U fs1 x.flds.length fc1] 28)).alloc (Cc #[Bb y.none,U vs2 y.vars.length vc2,U fs2 y.flds.length fc2] 28)) hl1 hP1.1 hP2.1);clear h1 h2;unfold xv;obtain⟨⟨a0,a1,a2⟩,az,-⟩:=id A0;obtain⟨⟨b0,b1,b2⟩,bz,-⟩:=id B0;generalize hxn:x.none=xn at *;generalize hyn:y.none=yn at *;by_cases hn:xn=yn;rotate_left
 ·have HN:Hid (¬x=y):=λe=>hn (by rw[<-hxn,<-hyn,e])
  have hn2:(xn=true/\yn=false)\/(xn=false/\yn=true):=by cases xn<;>cases yn<;>simp_all
  clear hn HS A0 B0 hP1 hP2 hxn hyn a0 a1 a2 az b0 b1 b2 bz;rcases hn2 with⟨rfl,rfl⟩|⟨rfl,rfl⟩;all_goals
   go_enter Tryz.func34,Tryz.ntmps34;go_wp2;go_ret;exact⟨SameAns.no HN.out,hb0⟩
 have HN:Hid (x.none=y.none):=by show _=_;rw[hxn,hyn,hn]
 subst hn;clear hxn hyn;go_enter Tryz.func34,Tryz.ntmps34;go_upto_region 1 with fail
 generalize ((w.alloc (Cc #[Bb xn,U vs1 x.vars.length vc1,U fs1 x.flds.length fc1] 28)).alloc (Cc #[Bb xn,U vs2 y.vars.length vc2,U fs2 y.flds.length fc2] 28))=w0 at *;go_wp2_with (go_at_call 74;fail);refine HS.out.mono ?_;rintro e w1 ⟨⟨r1,rfl,HR0⟩,hb1⟩;have HR:=ae HR0;clear HS HR0 a0 a1 a2 az b0 b1 b2 bz;have R1:=hP1.2.below hb1 (lR _);have R2:=hP2.2.below hb1 (lR _);have A1:=A0.call hb1;have B1:=B0.call hb1;have H1:=hb0.trans (hb1.mono hb0.size);clear A0 B0 hP1 hP2 hb0 hb1;obtain⟨⟨a0,a1,a2⟩,az,-⟩:=id A1;obtain⟨⟨b0,b1,b2⟩,bz,-⟩:=id B1;rcases j6 r1 with er|er;rotate_left
 ·have HV:Hid (¬x=y):=λe=>by have h:=HR.out.2 (by rw[e]);rw[er] at h;cases h
  subst er;go_wp2;go_ret;exact⟨SameAns.no HV.out,H1⟩
 have HV:=ae (HR.out.1 er);subst er;by_cases hf:x.flds.length=y.flds.length;rotate_left
 ·have e2:((x.flds.length:Int)!=(y.flds.length:Int))=true:=by simpa using λh=>hf aa
  have HF:Hid (¬x=y):=λe=>hf (by rw[e]);clear hf;go_wp2;go_ret;exact⟨SameAns.no HF.out,H1⟩
 have e2:((x.flds.length:Int)!=(y.flds.length:Int))=false:=by rw[hf];simp
 have HF:=ae hf;clear hf;go_wp2;clear a0 a1 a2 az b0 b1 b2 bz;go_loopw [5] (λi wr=>∃k:Nat,k<=x.flds.length/\i=I Y k/\Hid (x.flds.take k=y.flds.take k)/\bl w1 wr) (λi _=>x.flds.length - (intOf i).toNat)
 case atStart=>exact⟨0,j5 _,rfl,rfl,bR _ _⟩
 case round=>
  obtain⟨k,hk,rfl,HE,hbr⟩:=hrel;obtain⟨⟨a0,a1,a2⟩,az,-⟩:=id (A1.call hbr);obtain⟨⟨b0,b1,b2⟩,bz,-⟩:=id (B1.call hbr);have hbz:=H1.trans (hbr.mono H1.size);by_cases hlt:k < x.flds.length
  ·have n0:(0:Int)<=(k:Int):=by omega
   have n1:(k:Int) < (x.flds.length:Int):=aa;have hlb:k < y.flds.length:=rS;have n2:(k:Int) < (y.flds.length:Int):=aa;obtain⟨p1,q1,rfl,zp1,r1,rc1,C1,k1,m1,J1⟩:=R1.below hbr (lR _) k hlt;obtain⟨p2,q2,rfl,zp2,r2,rc2,C2,k2,m2,J2⟩:=R2.below hbr (lR _) k hlb;have hgl:x.flds[k].length<=maxLen:=lT k1 m1;have HKZ:Hid (∀wx,bl wr wx->(wx.cell? ⟨w.heap.size,2,nO⟩=sO (U (sO ⟨p1,q1,nO⟩) x.flds.length fc1)/\wx.cell? ⟨p1,q1+k,nO⟩=sO (U r1 x.flds[k].length rc1))/\(wx.cell? ⟨w.heap.size+1,2,nO⟩=sO (U (sO ⟨p2,q2,nO⟩) y.flds.length fc2)/\wx.cell? ⟨p2,q2+k,nO⟩=sO (U r2 y.flds[k].length rc2))):=λwx hx=>⟨⟨by rw[hx.cell (by simp only;exact az)];exact a2,by rw[hx.cell (by simp only;exact zp1)];exact C1⟩,by rw[hx.cell (by simp only;exact bz)];exact b2,by rw[hx.cell (by simp only;exact zp2)];exact C2⟩;have HD:bl wr wr.drew:=(bR _ _).drew;go_wp2;refine aH (S:=(λwx=>(wx.cell? ⟨w.heap.size,2,nO⟩=sO (U (sO ⟨p1,q1,nO⟩) x.flds.length fc1)/\wx.cell? ⟨p1,q1+k,nO⟩=sO (U r1 x.flds[k].length rc1))/\(wx.cell? ⟨w.heap.size+1,2,nO⟩=sO (U (sO ⟨p2,q2,nO⟩) y.flds.length fc2)/\wx.cell? ⟨p2,q2+k,nO⟩=sO (U r2 y.flds[k].length rc2)))) [] ag (HKZ.out _ HD) (λhHeld=> ?_);refine vZ 0 ?_ ?_;refine vZ 1 ?_ ?_;refine vZ 2 ?_ ?_;refine vZ 3 ?_ ?_;refine vZ 4 ?_ ?_;refine vZ 5 ?_ ?_;refine vZ 6 ?_ ?_;refine vZ 7 ?_ ?_;refine vZ 8 ?_ ?_;refine vZ 9 ?_ ?_;refine aB (i:=10) rfl ag (λK hK=> ?_);go_simp;go_at_call 74;refine(lW x.flds[k] y.flds[k] r1 rc1 r2 rc2 _ hgl (J1.call HD) (J2.call HD)).mono ?_;rintro e w5 ⟨⟨bb,rfl,HBB0⟩,hb5⟩;have HBB:=ae HBB0;clear HBB0;have HB5:bl wr w5:=HD.trans (hb5.mono HD.size);go_wp2_with fail;refine hK.out _ _ (HKZ.out _ HB5) (λhHeld=> ?_);clear hK K;refine sm ?_;refine vZ 11 ?_ ?_;refine aD ag ?_ _;rcases j6 bb with er|er
   ·have HQ:=ae (HBB.out.1 er)
    subst er;exact uP
   ·have HQ:Hid (¬x=y):=λh=>by have h2:=HBB.out.2 (by subst h;rfl);rw[er] at h2;cases h2
    subst er;go_wp2;go_ret;exact⟨SameAns.no HQ.out,hbz.trans (HB5.mono hbz.size)⟩
  ·have n1:¬(k:Int) < (x.flds.length:Int):=by omega
   go_wp2;go_ret;refine⟨SameAns.yes ?_,hbz⟩;have h:=HE.out;rw[j9 aa,j9 rS] at h;have h1:=HN.out;have h2:=HV.out;cases x;cases y
   simp_all
end
section
open Go.RowKit
theorem Fz (V F:Int)(s:oA)(c:List Ins)(cap:Nat)(g:Gs)(ss:oA)(gc:Nat)(w:World)(hcd:CodeAt w s c)(hs:IntsAt w ss g.s)(h1:g.s.length<=gc)(h2:gc<=maxLen):
  Calls pG 140 #[pv V F s c cap,gv g ss gc] w λe w'=>e=Rt (I Y (aZ V F c [g]))/\bl w w':=by
 have B0:Below w.heap.size w (pgW w V F s c cap g ss gc):=ai;have L0:=GsAt.new1 (pgW w V F s c cap g ss gc) g ss gc ((hs.alloc _).alloc _) h1 h2;simp only[zA] at L0;have HC:=ae (cq V F s c cap (sO ⟨w.heap.size+1+1,0,nO⟩) [g] 1 _ (((hcd.alloc _).alloc _).alloc _) L0 ah);generalize aZ V F c [g]=ce at HC |-;clear hcd hs L0;go_enter Tryz.func140,Tryz.ntmps140;go_wp2_with (go_at_call 142;fail);refine HC.out.mono ?_;rintro e w1 ⟨rfl,hb1⟩;go_wp2;go_ret;exact⟨rfl,(B0.alloc B0.size _).trans (hb1.mono an)⟩

theorem Mk (V F:Int)(s:oA)(c:List Ins)(cap:Nat)(g:Gs)(ss:oA)(gc:Nat)(h:Gs)(st:oA)(hc:Nat)(w:World)
  (hcd:CodeAt w s c)(hs:IntsAt w ss g.s)(h1:g.s.length<=gc)(h2:gc<=maxLen)(ht:IntsAt w st h.s)(h3:h.s.length<=hc)(h4:hc<=maxLen)(hck:aZ V F c [g,h]=0)(hlen:([g,h].flatMap Gs.s).length<=1000000):
  Calls pG 72 #[pv V F s c cap,gv g ss gc,gv h st hc] w λe w'=>∃v,e=Rt (Tu #[Ag #[Bb (g.n||h.n),Bb (bj g.sp h.sp).n,I Y (bj g.sp h.sp).lo,I Y (bj g.sp h.sp).hi,Bb (g.t||h.t),Bb (g.f||h.f),v],I Y 0])/\w'.ownsRow w.heap.size 3 1 v (cL [g,h]).length ((cL [g,h]).map (.int .i64))/\bl w w':=by
 obtain⟨P0,G0,H0,R0,F0⟩:=eP w V F s c cap g ss gc h st hc;have B0:=dg w V F s c cap g ss gc h st hc;have C0:CodeAt (bQ w V F s c cap g ss gc h st hc) s c:=hcd.below B0 (lR _);have I0:IntsAt (bQ w V F s c cap g ss gc h st hc) ss g.s:=hs.below B0 (lR _);have J0:IntsAt (bQ w V F s c cap g ss gc h st hc) st h.s:=ht.below B0 (lR _);have HT:=ae (yo V F s c cap g ss gc h st hc _ C0 I0 h1 h2 J0 h3 h4 hck hlen);clear hck hlen hcd hs ht P0 G0 H0 C0 I0 J0;generalize bj g.sp h.sp=J at HT |-;generalize cL [g,h]=T at HT |-;go_enter Tryz.func72,Tryz.ntmps72;go_wp2_with (go_at_call 123;fail);refine HT.out.mono ?_;rintro e w1 ⟨v,rfl,hown,hb1⟩;have R1:=R0.call hb1;have F1:Fr7 w1 (w.heap.size+1+1+1):=F0.call hb1;have B1:bl w w1:=B0.trans (hb1.mono B0.size);simp only[zA] at hown;have O1:=hown;obtain⟨vs,vc,rfl,-,-,-,-⟩:=IntsAt.own hown;clear hb1 R0 F0 B0 HT hown;obtain⟨⟨r0,r1,r2,r3,r4,r5,r6⟩,rz⟩:=id R1;simp only[j0,bG] at r0 r1 r2 r3 r4 r5 r6;have fz:=F1.1;go_wp2;refine bodyPost_ret (v:=Tu #[Ag #[Bb (g.n||h.n),Bb J.n,I Y J.lo,I Y J.hi,Bb (g.t||h.t),Bb (g.f||h.f),U vs T.length vc],I Y 0]) (by simp[results,Tryz.results72,go_sem,r0,r1,r2,r3,r4,r5,r6]) rfl ⟨_,rfl,?_,?_⟩
 ·exact fK (fM O1 aa) aa
 ·exact bp B1 aa

theorem Li (V F:Int)(s:oA)(c:List Ins)(cap:Nat)(g:Gs)(ss:oA)(gc:Nat)(h:Gs)(st:oA)(hc:Nat)(w:World)
  (hcd:CodeAt w s c)(hs:IntsAt w ss g.s)(h1:g.s.length<=gc)(h2:gc<=maxLen)(ht:IntsAt w st h.s)(h3:h.s.length<=hc)(h4:hc<=maxLen)(hck:aZ V F c [g,h]=0)(hlen:([g,h].flatMap Gs.s).length<=1000000):
  Calls pG 73 #[pv V F s c cap,gv g ss gc,gv h st hc] w λe w'=>∃v,e=Rt (Tu #[Ag #[Bb (g.n||h.n),Bb (br g.sp h.sp).n,I Y (br g.sp h.sp).lo,I Y (br g.sp h.sp).hi,Bb (g.t||h.t),Bb (g.f||h.f),v],I Y 0])/\w'.ownsRow w.heap.size 3 1 v (cL [g,h]).length ((cL [g,h]).map (.int .i64))/\bl w w':=by
 obtain⟨P0,G0,H0,R0,F0⟩:=eP w V F s c cap g ss gc h st hc;have B0:=dg w V F s c cap g ss gc h st hc;have C0:CodeAt (bQ w V F s c cap g ss gc h st hc) s c:=hcd.below B0 (lR _);have I0:IntsAt (bQ w V F s c cap g ss gc h st hc) ss g.s:=hs.below B0 (lR _);have J0:IntsAt (bQ w V F s c cap g ss gc h st hc) st h.s:=ht.below B0 (lR _);have HT:=ae (yD V F s c cap g ss gc h st hc _ C0 I0 h1 h2 J0 h3 h4 hck hlen);clear hck hlen hcd hs ht P0 G0 H0 C0 I0 J0;generalize br g.sp h.sp=J at HT |-;generalize cL [g,h]=T at HT |-;go_enter Tryz.func73,Tryz.ntmps73;go_wp2_with (go_at_call 123;fail);refine HT.out.mono ?_;rintro e w1 ⟨v,rfl,hown,hb1⟩;have R1:=R0.call hb1;have F1:Fr7 w1 (w.heap.size+1+1+1):=F0.call hb1;have B1:bl w w1:=B0.trans (hb1.mono B0.size);simp only[zA] at hown;have O1:=hown;obtain⟨vs,vc,rfl,-,-,-,-⟩:=IntsAt.own hown;clear hb1 R0 F0 B0 HT hown;obtain⟨⟨r0,r1,r2,r3,r4,r5,r6⟩,rz⟩:=id R1;simp only[j0,bG] at r0 r1 r2 r3 r4 r5 r6;have fz:=F1.1;go_wp2;refine bodyPost_ret (v:=Tu #[Ag #[Bb (g.n||h.n),Bb J.n,I Y J.lo,I Y J.hi,Bb (g.t||h.t),Bb (g.f||h.f),U vs T.length vc],I Y 0]) (by simp[results,Tryz.results73,go_sem,r0,r1,r2,r3,r4,r5,r6]) rfl ⟨_,rfl,?_,?_⟩
 ·exact fK (fM O1 aa) aa
 ·exact bp B1 aa
abbrev ow (w:World)(V F:Int)(s:oA)(c:List Ins)(cap:Nat)(g:Gs)(ss:oA)(gc:Nat)(h:Gs)(st:oA)(hc:Nat):World:=
 ((w.alloc (Cc #[I Y V,I Y F,U s c.length cap] 24)).alloc (Cc #[Bb g.n,Bb g.sp.n,I Y g.sp.lo,I Y g.sp.hi,Bb g.t,Bb g.f,U ss g.s.length gc] 91)).alloc (Cc #[Bb h.n,Bb h.sp.n,I Y h.sp.lo,I Y h.sp.hi,Bb h.t,Bb h.f,U st h.s.length hc] 91)
theorem Fe (w:World)(V F:Int)(s:oA)(c:List Ins)(cap:Nat)(g:Gs)(ss:oA)(gc:Nat)(h:Gs)(st:oA)(hc:Nat):
  GuAt (ow w V F s c cap g ss gc h st hc) (w.heap.size+1) 0 g ss gc/\GuAt (ow w V F s c cap g ss gc h st hc) (w.heap.size+1+1) 0 h st hc/\bl w (ow w V F s c cap g ss gc h st hc):=by
 refine⟨?_,?_,ai⟩
 ·have:=GuAt.new (w.alloc (Cc #[I Y V,I Y F,U s c.length cap] 24)) g ss gc
  rw[zA] at this;exact this.alloc _
 ·have:=GuAt.new ((w.alloc (Cc #[I Y V,I Y F,U s c.length cap] 24)).alloc (Cc #[Bb g.n,Bb g.sp.n,I Y g.sp.lo,I Y g.sp.hi,Bb g.t,Bb g.f,U ss g.s.length gc] 91)) h st hc
  simp only[zA] at this;exact this

theorem gW {a c:Bool}{b d:Int}(h:a=c)(h':b=d):Ending.returned (Tu #[Bb a,I Y b])=Rt (Tu #[Bb c,I Y d]):=by rw[h,h']
theorem fW (a b:Bool):(a=true/\b=false)\/a=false\/(a=true/\b=true):=by cases a<;>cases b<;>simp

theorem Lv {s t:Sp}(hs:s.Ok)(ht:t.Ok):decide (aF s t=s)=eZ s t:=by
 obtain⟨n,lo,hi⟩:=s;obtain⟨n',lo',hi'⟩:=t;obtain⟨-,-,hz,hl⟩:=hs;obtain⟨-,-,hz',hl'⟩:=ht;cases n with
 |true=>
  obtain⟨h1,h2⟩:=hz rfl;simp only at h1 h2;subst h1 h2;rfl
 |false=>
  cases n' with
  |true=>
   have e0:aF ⟨false,lo,hi⟩ ⟨true,lo',hi'⟩=⟨true,0,0⟩:=rfl;rw[e0];simp[eZ,Sp.has]
  |false=>
   simp only at hl hl';rw[Bool.eq_iff_iff,decide_eq_true_eq];unfold aF eZ Sp.has;simp only[Bool.false_or,Bool.not_false,Bool.true_and,decide_eq_true_eq,Bool.and_eq_true];constructor
   ·intro h
    split at h
    ·cases h
    ·simp only[Sp.mk.injEq,true_and] at h
     omega
   ·intro h
    rw[if_neg aa];simp only[Sp.mk.injEq,true_and];omega

theorem CG (V F:Int)(s:oA)(c:List Ins)(cap:Nat)(g:Gs)(ss:oA)(gc:Nat)(h:Gs)(st:oA)(hc:Nat)(w:World)
  (hcd:CodeAt w s c)(hs:IntsAt w ss g.s)(h1:g.s.length<=gc)(h2:gc<=maxLen)(ht:IntsAt w st h.s)(h3:h.s.length<=hc)(h4:hc<=maxLen)(hck:aZ V F c [g,h]≠0):
  Calls pG 161 #[pv V F s c cap,gv g ss gc,gv h st hc] w λe w'=>e=Rt (Tu #[Bb false,I Y (aZ V F c [g,h])])/\bl w w':=by
 obtain⟨G0,H0,B0⟩:=Fe w V F s c cap g ss gc h st hc;have I0:IntsAt (ow w V F s c cap g ss gc h st hc) ss g.s:=hs.below B0 (lR _);have J0:IntsAt (ow w V F s c cap g ss gc h st hc) st h.s:=ht.below B0 (lR _);have L0:=GsAt.new2 (ow w V F s c cap g ss gc h st hc) g ss gc h st hc I0 h1 h2 J0 h3 h4;simp only[zA] at L0;have HC:=ae (cq V F s c cap (sO ⟨w.heap.size+1+1+1,0,nO⟩) [g,h] 2 _ ((hcd.below B0 (lR _)).alloc _) L0 ah);have hne:(aZ V F c [g,h]!=0)=true:=by simpa using hck
 generalize aZ V F c [g,h]=ce at HC hne |-;clear hck hcd hs ht I0 J0 L0 G0 H0;go_enter Tryz.func161,Tryz.ntmps161;go_wp2_with (go_at_call 142;fail);refine HC.out.mono ?_;rintro e w1 ⟨rfl,hb1⟩;go_wp2
 go_ret2
 exact⟨rfl,(B0.alloc B0.size _).trans (hb1.mono an)⟩

theorem fr {p:Prop}(h:p:=by
 rintro e w2 ⟨rfl,hb2⟩;rw[sD];have G2:=G1.call hb2;have H2:=H1.call hb2;have B2:=B1.trans (hb2.mono B1.size);clear hb2 G1 H1 B1 I1 J1 g0 g1 g2 g3 g4 g5 g6 gz k0 k1 k2 k3 k4 k5 k6 kz;obtain⟨⟨g0,g1,g2,g3,g4,g5,g6⟩,gz⟩:=id G2;obtain⟨⟨k0,k1,k2,k3,k4,k5,k6⟩,kz⟩:=id H2;simp only[Nat.zero_add] at g0 g1 g2 g3 g4 g5 g6 k0 k1 k2 k3 k4 k5 k6;generalize hA:(sl.all λx=>h'.contains x)=al at *;have HA:=ae hA;clear hA;cases al with
 |false=>
  go_wp2
  go_ret2
  exact⟨gW gQ rfl,B2⟩
 |true=>
  go_wp2_with (go_at_call 201;fail);refine(HW.out _).mono ?_;rintro e w3 ⟨rfl,hb3⟩;go_wp2
  go_ret2
  exact⟨gW gQ rfl,B2.trans (hb3.mono B2.size)⟩):p:=h
theorem tV (V F:Int)(s:oA)(c:List Ins)(cap:Nat)(g:Gs)(ss:oA)(gc:Nat)(h:Gs)(st:oA)(hc:Nat)(w:World)
  (hcd:CodeAt w s c)(hs:IntsAt w ss g.s)(h1:g.s.length<=gc)(h2:gc<=maxLen)(ht:IntsAt w st h.s)(h3:h.s.length<=hc)(h4:hc<=maxLen)(hck:aZ V F c [g,h]=0):
  Calls pG 161 #[pv V F s c cap,gv g ss gc,gv h st hc] w λe w'=>e=Rt (Tu #[Bb (dn g h),I Y 0])/\bl w w':=by
 obtain⟨G0,H0,B0⟩:=Fe w V F s c cap g ss gc h st hc;have I0:IntsAt (ow w V F s c cap g ss gc h st hc) ss g.s:=hs.below B0 (lR _);have J0:IntsAt (ow w V F s c cap g ss gc h st hc) st h.s:=ht.below B0 (lR _);have L0:=GsAt.new2 (ow w V F s c cap g ss gc h st hc) g ss gc h st hc I0 h1 h2 J0 h3 h4;simp only[zA] at L0;have HC:=ae (cq V F s c cap (sO ⟨w.heap.size+1+1+1,0,nO⟩) [g,h] 2 _ ((hcd.below B0 (lR _)).alloc _) L0 ah);obtain⟨hos,hot⟩:=ckSps_ok.1 (eS hck);have hW:=λw=>GL g.sp h.sp w;rw[eS hck,show (decide ((0:Int)=0)&&decide (aF g.sp h.sp=g.sp))=eZ g.sp h.sp by rw[Lv hos hot];rfl] at hW;have HW:=ae hW;have hgl:g.s.length<=9223372036854775807:=by unfold maxLen at h2;omega
 have hlt:h.s.length<=9223372036854775807:=by unfold maxLen at h4;omega
 have HR:Hid (dn g h=(!(g.n&& !h.n)&&(!(g.t&& !h.t)&&(!(g.f&& !h.f)&&(eZ g.sp h.sp&&g.s.all λx=>h.s.contains x))))):=rfl;generalize dn g h=res at HR |-;generalize eZ g.sp h.sp=si at HR HW;rw[hck] at HC;clear hck hcd hs ht L0 hW hos hot;go_enter Tryz.func161,Tryz.ntmps161;go_wp2_with (go_at_call 142;fail);refine HC.out.mono ?_;rintro e w1 ⟨rfl,hb1⟩;have G1:=(G0.alloc _).call hb1;have H1:=(H0.alloc _).call hb1;have I1:=(I0.alloc _).call hb1;have J1:=(J0.alloc _).call hb1;have B1:bl w w1:=(B0.alloc B0.size _).trans (hb1.mono an);clear hb1 G0 H0 I0 J0 B0 HC;obtain⟨⟨g0,g1,g2,g3,g4,g5,g6⟩,gz⟩:=id G1;obtain⟨⟨k0,k1,k2,k3,k4,k5,k6⟩,kz⟩:=id H1;simp only[j0] at g0 g1 g2 g3 g4 g5 g6 k0 k1 k2 k3 k4 k5 k6;obtain⟨n,sp,t,f,sl⟩:=g;obtain⟨n',sp',t',f',h'⟩:=h;simp only at hgl hlt;rcases fW n n' with⟨rfl,rfl⟩|rfl|⟨rfl,rfl⟩
 ·go_wp2
  go_ret2
  exact⟨gW fO rfl,B1⟩
 ·rcases fW t t' with⟨rfl,rfl⟩|rfl|⟨rfl,rfl⟩
  ·go_wp2
   go_ret2
   exact⟨gW fO rfl,B1⟩
  ·rcases fW f f' with⟨rfl,rfl⟩|rfl|⟨rfl,rfl⟩
   ·go_wp2
    go_ret2
    exact⟨gW fO rfl,B1⟩
   ·go_wp2_with (go_at_call 200;fail)
    refine(cT (w.heap.size+1+1) (λx=> !h'.contains x) ss gc sl _ aa I1 λx wx hbx=>gA x _ ⟨n',sp',t',f',h'⟩ st hc wx (H1.call hbx) (J1.call hbx) dm).mono ?_;exact fr
   ·go_wp2_with (go_at_call 200;fail)
    refine(cT (w.heap.size+1+1) (λx=> !h'.contains x) ss gc sl _ aa I1 λx wx hbx=>gA x _ ⟨n',sp',t',true,h'⟩ st hc wx (H1.call hbx) (J1.call hbx) dm).mono ?_;exact fr
  ·rcases fW f f' with⟨rfl,rfl⟩|rfl|⟨rfl,rfl⟩
   ·go_wp2
    go_ret2
    exact⟨gW fO rfl,B1⟩
   ·go_wp2_with (go_at_call 200;fail)
    refine(cT (w.heap.size+1+1) (λx=> !h'.contains x) ss gc sl _ aa I1 λx wx hbx=>gA x _ ⟨n',sp',true,f',h'⟩ st hc wx (H1.call hbx) (J1.call hbx) dm).mono ?_;exact fr
   ·go_wp2_with (go_at_call 200;fail)
    refine(cT (w.heap.size+1+1) (λx=> !h'.contains x) ss gc sl _ aa I1 λx wx hbx=>gA x _ ⟨n',sp',true,true,h'⟩ st hc wx (H1.call hbx) (J1.call hbx) dm).mono ?_;exact fr
 ·rcases fW t t' with⟨rfl,rfl⟩|rfl|⟨rfl,rfl⟩
  ·go_wp2
   go_ret2
   exact⟨gW fO rfl,B1⟩
  ·rcases fW f f' with⟨rfl,rfl⟩|rfl|⟨rfl,rfl⟩
   ·go_wp2
    go_ret2
    exact⟨gW fO rfl,B1⟩
   ·go_wp2_with (go_at_call 200;fail)
    refine(cT (w.heap.size+1+1) (λx=> !h'.contains x) ss gc sl _ aa I1 λx wx hbx=>gA x _ ⟨true,sp',t',f',h'⟩ st hc wx (H1.call hbx) (J1.call hbx) dm).mono ?_;exact fr
   ·go_wp2_with (go_at_call 200;fail)
    refine(cT (w.heap.size+1+1) (λx=> !h'.contains x) ss gc sl _ aa I1 λx wx hbx=>gA x _ ⟨true,sp',t',true,h'⟩ st hc wx (H1.call hbx) (J1.call hbx) dm).mono ?_;exact fr
  ·rcases fW f f' with⟨rfl,rfl⟩|rfl|⟨rfl,rfl⟩
   ·go_wp2
    go_ret2
    exact⟨gW fO rfl,B1⟩
   ·go_wp2_with (go_at_call 200;fail)
    refine(cT (w.heap.size+1+1) (λx=> !h'.contains x) ss gc sl _ aa I1 λx wx hbx=>gA x _ ⟨true,sp',true,f',h'⟩ st hc wx (H1.call hbx) (J1.call hbx) dm).mono ?_;exact fr
   ·go_wp2_with (go_at_call 200;fail)
    refine(cT (w.heap.size+1+1) (λx=> !h'.contains x) ss gc sl _ aa I1 λx wx hbx=>gA x _ ⟨true,sp',true,true,h'⟩ st hc wx (H1.call hbx) (J1.call hbx) dm).mono ?_;exact fr
theorem Gh {V F:Int}{c:List Ins}{g:Gs}(hk:aZ V F c [g]=0):au V F c=0/\aE c g=0:=by
 unfold aZ at hk;by_cases h0:au V F c=0
 ·rw[if_pos h0] at hk
  have e:cl c [g]=if aE c g=0 then 0 else aE c g:=rfl
  rw[e] at hk;by_cases hg:aE c g=0
  ·exact⟨h0,hg⟩
  ·rw[if_neg hg] at hk;exact absurd hk hg
 ·rw[if_neg h0] at hk;exact absurd hk h0
theorem iV {c:List Ins}{g:Gs}(h:aE c g=0):cH g.sp=0:=by
 unfold aE at h;split at h
 ·assumption
 ·rename_i hn;exact Decidable.not_not.1 hn
theorem NV (w:World)(V F:Int)(s:oA)(c:List Ins)(cap:Nat)(g:Gs)(ss:oA)(gc:Nat):GuAt (pgW w V F s c cap g ss gc) (w.heap.size+1) 0 g ss gc/\bl w (pgW w V F s c cap g ss gc):=by
 refine⟨?_,ai⟩;have:=GuAt.new (w.alloc (Cc #[I Y V,I Y F,U s c.length cap] 24)) g ss gc;rw[zA] at this;exact this

theorem Ia (V F:Int)(s:oA)(c:List Ins)(cap:Nat)(g:Gs)(ss:oA)(gc:Nat)(w:World)(hcd:CodeAt w s c)(hs:IntsAt w ss g.s)(h1:g.s.length<=gc)(h2:gc<=maxLen)(hck:aZ V F c [g]=0):
  Calls pG 160 #[pv V F s c cap,gv g ss gc] w λe w'=>e=Rt (Tu #[Bb (cj g),Bb (cQ g),I Y 0])/\bl w w':=by
 obtain⟨G0,B0⟩:=NV w V F s c cap g ss gc;have I0:IntsAt (pgW w V F s c cap g ss gc) ss g.s:=hs.below B0 (lR _);have L0:=GsAt.new1 (pgW w V F s c cap g ss gc) g ss gc I0 h1 h2;simp only[zA] at L0;have HC:=ae (cq V F s c cap (sO ⟨w.heap.size+1+1,0,nO⟩) [g] 1 _ ((hcd.below B0 (lR _)).alloc _) L0 ah);have HT:=ae (λw=>vD g ss gc w (iV (Gh hck).2));rw[hck] at HC;generalize cj g=y at HT |-;generalize cQ g=n at HT |-;clear hck hcd hs I0 L0;go_enter Tryz.func160,Tryz.ntmps160;go_wp2_with (go_at_call 142;fail);refine HC.out.mono ?_;rintro e w1 ⟨rfl,hb1⟩;have G1:=(G0.alloc _).call hb1;have B1:bl w w1:=(B0.alloc B0.size _).trans (hb1.mono an);clear hb1 HC G0 B0;obtain⟨⟨g0,g1,g2,g3,g4,g5,g6⟩,gz⟩:=id G1;simp only[j0] at g0 g1 g2 g3 g4 g5 g6;go_wp2_with (go_at_call 198;fail);refine(HT.out _).mono ?_;rintro e w2 ⟨rfl,hb2⟩;go_wp2
 go_ret3
 exact⟨rfl,B1.trans (hb2.mono B1.size)⟩
theorem GuAt.grown {w w':World}{vb:Option Nat}{b o:Nat}{g:Gs}{ss:oA}{cap:Nat}(hg:w.grownBy w' vb)(h:GuAt w b o g ss cap)(hne:sO b≠vb):GuAt w' b o g ss cap:=by
 obtain⟨⟨h0,h1,h2,h3,h4,h5,h6⟩,hz⟩:=h;have hk:=hg.block b hz hne;have c:∀j,w'.cell? ⟨b,j,nO⟩=w.cell? ⟨b,j,nO⟩:=λj=>World.cell?_of_block (a:=⟨b,j,nO⟩) hk;exact⟨⟨by rw[c];exact h0,by rw[c];exact h1,by rw[c];exact h2,by rw[c];exact h3,by rw[c];exact h4,by rw[c];exact h5,by rw[c];exact h6⟩,lL hz hg.size⟩
theorem Fr7.grown {w w':World}{vb:Option Nat}{b:Nat}(hg:w.grownBy w' vb)(h:Fr7 w b)(hne:sO b≠vb):Fr7 w' b:=by
 have hk:=hg.block b h.2 hne;exact⟨λj=>by rw[World.frozen?_of_block (a:=⟨b,j,nO⟩) hk];exact h.1 j,lL h.2 hg.size⟩
theorem GuAt.setFar {w:World}{b b' o j:Nat}{g:Gs}{ss:oA}{cap:Nat}{v:Value}(h:GuAt w b o g ss cap)(hne:b≠b'):GuAt (w.setCell ⟨b',j,nO⟩ v) b o g ss cap:=by
 obtain⟨⟨h0,h1,h2,h3,h4,h5,h6⟩,hz⟩:=h;have c:∀i,(w.setCell ⟨b',j,nO⟩ v).cell? ⟨b,i,nO⟩=w.cell? ⟨b,i,nO⟩:=λi=>World.cell?_setCell_far _ ⟨b',j,nO⟩ ⟨b,i,nO⟩ _ (λe=>hne e.symm);exact⟨⟨by rw[c];exact h0,by rw[c];exact h1,by rw[c];exact h2,by rw[c];exact h3,by rw[c];exact h4,by rw[c];exact h5,by rw[c];exact h6⟩,eK⟩
theorem GuAt.setS {w:World}{b:Nat}{g:Gs}{ss ss':oA}{cap cap':Nat}{s':List Int}(h:GuAt w b 0 g ss cap):GuAt (w.setCell ⟨b,6,nO⟩ (U ss' s'.length cap')) b 0 ⟨g.n,g.sp,g.t,g.f,s'⟩ ss' cap':=by
 obtain⟨⟨h0,h1,h2,h3,h4,h5,h6⟩,hz⟩:=h;simp only[j0] at h0 h1 h2 h3 h4 h5 h6;refine⟨?_,eK⟩;simp[go_sem,h0,h1,h2,h3,h4,h5,h6]
theorem Fr7.set {w:World}{b b' j:Nat}{v:Value}(h:Fr7 w b):Fr7 (w.setCell ⟨b',j,nO⟩ v) b:=⟨λi=>by simp[go_sem,h.1 i],by simpa using h.2⟩
theorem mI {w:World}{B n b j z:Nat}{e:TypeId}{v u:Value}{xs:List Value}(h:w.ownsRow B e z v n xs)(hb:b < B):(w.setCell ⟨b,j,nO⟩ u).ownsRow B e z v n xs:=
 ⟨h.1,h.2.imp id λ⟨g,cap,cur,r1,r2,r3,r4⟩=>⟨g,cap,cur,r1,r2,by rw[hSe _ _ _ _ (by show g≠b;omega)];exact r3,r4⟩⟩

def bK (a b:List Int)(k:Nat):List Int:=((List.range k).map λn:Nat=>(n:Int)).filter λx=>a.contains x||b.contains x
theorem Dj (a b:List Int)(k:Nat):bK a b (k+1)=bK a b k++(if (a.contains (k:Int)||b.contains (k:Int))=true then [(k:Int)] else []):=by
 unfold bK;rw[List.range_succ,q3,List.filter_append];congr 1;by_cases h:(a.contains (k:Int)||b.contains (k:Int))=true
 ·simp only[q4,q5,q6,h,if_true,q7]
 ·simp only[q4,q5,q6,h,if_false,q7,Bool.false_eq_true]
theorem Gd (a b:List Int)(k:Nat):(bK a b k).length<=k:=by
 unfold bK;exact lT (List.length_filter_le _ _) ah
def FO (w:World)(g:Gs)(ss:oA)(gc:Nat)(h:Gs)(st:oA)(hc:Nat)(w':World):Prop:=
 (w'.cell? ⟨w.heap.size,0,nO⟩=sO (Bb g.n)/\w'.cell? ⟨w.heap.size,1,nO⟩=sO (Bb g.sp.n)/\w'.cell? ⟨w.heap.size,2,nO⟩=sO (I Y g.sp.lo)/\w'.cell? ⟨w.heap.size,3,nO⟩=sO (I Y g.sp.hi)/\w'.cell? ⟨w.heap.size,4,nO⟩=sO (Bb g.t)/\w'.cell? ⟨w.heap.size,5,nO⟩=sO (Bb g.f)/\w'.cell? ⟨w.heap.size,6,nO⟩=sO (U ss g.s.length gc))/\
 (w'.cell? ⟨w.heap.size+1,0,nO⟩=sO (Bb h.n)/\w'.cell? ⟨w.heap.size+1,1,nO⟩=sO (Bb h.sp.n)/\w'.cell? ⟨w.heap.size+1,2,nO⟩=sO (I Y h.sp.lo)/\w'.cell? ⟨w.heap.size+1,3,nO⟩=sO (I Y h.sp.hi)/\w'.cell? ⟨w.heap.size+1,4,nO⟩=sO (Bb h.t)/\w'.cell? ⟨w.heap.size+1,5,nO⟩=sO (Bb h.f)/\w'.cell? ⟨w.heap.size+1,6,nO⟩=sO (U st h.s.length hc))
theorem vA {p:Prop}(h:p:=by
 have hln:=HL.out k;go_wp2_with (at_builtin;refine wpList_append_own _ rfl _ _ 34 rfl W.heap.size 3 ti (.int .i64 0) 1 8 Tryz.underlying34 hi hz0 hz1 hz2 rfl aj _ _ _ rfl (OR.alloc _) ⟨wr.heap.size,0,none⟩ 1 1 [.int .i64 (k:Int)] rfl rfl (cell_one_new _ _ _) (λx hx=>iy) cS aa an ?_;intro v' w3 hown' hgrow3 hnil3;have hlow:∀b,b < W.heap.size->some b≠(Value.slice vs (bK sl h.s k).length vc).ownBlock:=(λb hb e=>by have:=lM OR e.symm;omega);have O3:w3.ownsRow W.heap.size 3 1 v' (bK sl h.s (k+1)).length ((bK sl h.s (k+1)).map (.int .i64)):=(by rw[HT.out,List.map_append,List.length_append];exact hown');obtain⟨vs',vc',hv',-⟩:=IntsAt.own O3;subst hv';have G3:=((GR.alloc _).grown hgrow3 (hlow _ aa));have H3:=((HR.alloc _).grown hgrow3 (hlow _ aa));have R3:=((RR.alloc _).grown hgrow3 (hlow _ aa));have F3:=((FR.alloc _).grown hgrow3 (hlow _ aa));have U3:=((UR.alloc _).grown hgrow3 (hlow _ aa));have X3:=((XR.alloc _).grown hgrow3 (hlow _ aa));have B3:=((BR.alloc BR.size _).grown hgrow3 (by simp;have:=BR.size;omega) (λj hj=>by have:=lM OR hj;omega));have z3:=hgrow3.size;simp only[World.size_alloc] at z3;obtain⟨⟨u0,u1,u2,u3,u4,u5,u6⟩,uz⟩:=id U3;simp only[Nat.zero_add] at u0 u1 u2 u3 u4 u5 u6;have fz3:=X3.1);go_roundw
 case rel=>exact⟨k+1,vs',vc',aa,aG,G3.setFar aa,H3.setFar aa,R3.setFar aa,F3.set,U3.setS,X3.set,mI O3 aa,an,B3.setCell (by show w.heap.size<=ob;omega) _⟩
 case measure=>simp[intOf];omega):p:=h
theorem tT {p:Prop}(h:p:=by
 go_wp2_with (go_at_call 168;fail);refine(s9 (k:Int) ss gc sl _ hgl IR).mono ?_;rintro e w5 ⟨rfl,hw5⟩;have hw6:=hw5.symm;subst hw6;have HD:Hid (sl.contains (k:Int)=sl.contains (k:Int)):=rfl;generalize hd:sl.contains (k:Int)=d at *;have HE:=ae hd;clear hd HD hw5;cases d with
 |true=>
  have HT:Hid (bK sl h.s (k+1)=bK sl h.s k++[(k:Int)]):=by show _=_;rw[HS.out k,if_pos];simp only[HE.out,Bool.true_or]
  exact vA
 |false=>
  go_wp2_with (go_at_call 168;fail);refine(s9 (k:Int) st hc h.s _ hlt' JR).mono ?_;rintro e w5 ⟨rfl,hw5⟩;have hw6:=hw5.symm;subst hw6;generalize hd2:h.s.contains (k:Int)=d2 at *;have HE2:=ae hd2;clear hd2 hw5;cases d2 with
  |true=>
   have HT:Hid (bK sl h.s (k+1)=bK sl h.s k++[(k:Int)]):=by show _=_;rw[HS.out k,if_pos];simp only[HE.out,HE2.out,Bool.false_or]
   exact vA
  |false=>
   have HT:Hid (bK sl h.s (k+1)=bK sl h.s k):=by show _=_;rw[HS.out k,if_neg (by simp only[HE.out,HE2.out];simp),List.append_nil]
   go_wp2;go_roundw
   case rel=>exact⟨k+1,vs,vc,aa,aG,GR,HR,RR,FR,by rw[HT.out];exact UR,XR,by rw[HT.out];exact OR,zR,BR⟩
   case measure=>simp[intOf];omega):p:=h
theorem uJ {p:Prop}(h:p:=by
 have HS:=ae (Dj g.s h.s);have HL:=ae (Gd g.s h.s);clear G0 H0 B0;go_enter Tryz.func114,Tryz.ntmps114;go_wp2;generalize ((w.alloc (.cells #[.bool g.n,.bool g.sp.n,.int .i64 g.sp.lo,.int .i64 g.sp.hi,.bool g.t,.bool g.f,.slice ss g.s.length gc] 91)).alloc (.cells #[.bool h.n,.bool h.sp.n,.int .i64 h.sp.lo,.int .i64 h.sp.hi,.bool h.t,.bool h.f,.slice st h.s.length hc] 91)).alloc (.cells #[.bool false,.bool false,.int .i64 0,.int .i64 0,.bool false,.bool false,.slice none 0 0] 91)=w1 at *;have KS:∀wx,GuAt wx w.heap.size 0 g ss gc->GuAt wx (w.heap.size+1) 0 h st hc->FO w g ss gc h st hc wx:=λwx a b=>⟨by simpa using a.1,by simpa using b.1⟩;unfold FO at KS;obtain⟨n,sp,t,f,sl⟩:=g;refine wp_region_held_drew (S:=FO w ⟨n,sp,t,f,sl⟩ ss gc h st hc) ag (KS _ G1.drew H1.drew) (λhHeld=> ?_);unfold FO at hHeld |-;refine vH 0 ?_ ?_;refine vH 1 ?_ ?_;refine vH 2 ?_ ?_;refine wpAnyH_take (i:=3) (v:=if n=true then undef else .pointer (some ⟨w.heap.size+1,0,none⟩)) rfl ag ag ag (λ_ _ _ h=>h) ?_ cy ?_
 ·cases n
  ·refine Or.inl ⟨?_,?_⟩
   ·rfl
   ·(intro w hSw;(try dsimp only at hSw);first|(go_simp;done)|(go_simp;with_reducible rfl))
  ·exact Or.inr ⟨rfl,rfl⟩
 refine sm ?_;refine wpAnyH_take (i:=4) (v:=if n=true then undef else .bool h.n) rfl ag ag ag (λ_ _ _ h=>h) ?_ cy ?_
 ·cases n
  ·refine Or.inl ⟨?_,?_⟩
   ·rfl
   ·(intro w hSw;(try dsimp only at hSw);first|(go_simp;done)|(go_simp;with_reducible rfl))
  ·exact Or.inr ⟨rfl,rfl⟩
 refine sm ?_;refine wpAnyH_take (i:=5) (v:=.bool (n||h.n)) rfl ag ag ag (λ_ _ _ h=>h) ?_ cy ?_
 ·cases n
  ·refine Or.inl ⟨?_,?_⟩
   ·rfl
   ·(intro w hSw;(try dsimp only at hSw);first|(go_simp;done)|(go_simp;with_reducible rfl))
  ·refine Or.inl ⟨?_,?_⟩
   ·rfl
   ·(intro w hSw;(try dsimp only at hSw);first|(go_simp;done)|(go_simp;with_reducible rfl))
 refine sm ?_;refine vH 6 ?_ ?_;refine vH 7 ?_ ?_;refine vH 8 ?_ ?_;refine vH 9 ?_ ?_;refine vH 10 ?_ ?_;refine vH 12 ?_ ?_;refine vH 13 ?_ ?_;refine vH 18 ?_ ?_;refine vH 19 ?_ ?_;refine wpAnyH_ready (rs:=[11,25]) ag ah ?_;refine AllReadyH.cons rfl (λK hK=> ?_) (AllReadyH.cons rfl (λK hK=> ?_) AllReadyH.nil)
 ·go_simp
  refine(HJ.out _).mono ?_;rintro e w2 ⟨rfl,hb2⟩;have G2:=G1.drew.call hb2;have H2:=H1.drew.call hb2;have R2:=R1.drew.call hb2;have F2:=F1.drew.call hb2;have B2:bl w w2:=B1.drew.trans (hb2.mono B1.size);clear hb2 G1 H1 R1 F1 B1;refine hK.out _ _ (KS _ G2 H2) (λhHeld=> ?_);clear hK K;refine sm ?_;refine vH 14 ?_ ?_;refine wpAnyH_take (i:=15) (v:=if t=true then undef else .pointer (some ⟨w.heap.size+1,4,none⟩)) rfl ag ag ag (λ_ _ _ h=>h) ?_ cy ?_
  ·cases t
   ·refine Or.inl ⟨?_,?_⟩
    ·rfl
    ·(intro w hSw;(try dsimp only at hSw);first|(go_simp;done)|(go_simp;with_reducible rfl))
   ·exact Or.inr ⟨rfl,rfl⟩
  refine sm ?_;refine wpAnyH_take (i:=16) (v:=if t=true then undef else .bool h.t) rfl ag ag ag (λ_ _ _ h=>h) ?_ cy ?_
  ·cases t
   ·refine Or.inl ⟨?_,?_⟩
    ·rfl
    ·(intro w hSw;(try dsimp only at hSw);first|(go_simp;done)|(go_simp;with_reducible rfl))
   ·exact Or.inr ⟨rfl,rfl⟩
  refine sm ?_;refine wpAnyH_take (i:=17) (v:=.bool (t||h.t)) rfl ag ag ag (λ_ _ _ h=>h) ?_ cy ?_
  ·cases t
   ·refine Or.inl ⟨?_,?_⟩
    ·rfl
    ·(intro w hSw;(try dsimp only at hSw);first|(go_simp;done)|(go_simp;with_reducible rfl))
   ·refine Or.inl ⟨?_,?_⟩
    ·rfl
    ·(intro w hSw;(try dsimp only at hSw);first|(go_simp;done)|(go_simp;with_reducible rfl))
  refine sm ?_;refine vH 20 ?_ ?_;refine wpAnyH_take (i:=21) (v:=if f=true then undef else .pointer (some ⟨w.heap.size+1,5,none⟩)) rfl ag ag ag (λ_ _ _ h=>h) ?_ cy ?_
  ·cases f
   ·refine Or.inl ⟨?_,?_⟩
    ·rfl
    ·(intro w hSw;(try dsimp only at hSw);first|(go_simp;done)|(go_simp;with_reducible rfl))
   ·exact Or.inr ⟨rfl,rfl⟩
  refine sm ?_;refine wpAnyH_take (i:=22) (v:=if f=true then undef else .bool h.f) rfl ag ag ag (λ_ _ _ h=>h) ?_ cy ?_
  ·cases f
   ·refine Or.inl ⟨?_,?_⟩
    ·rfl
    ·(intro w hSw;(try dsimp only at hSw);first|(go_simp;done)|(go_simp;with_reducible rfl))
   ·exact Or.inr ⟨rfl,rfl⟩
  refine sm ?_;refine wpAnyH_take (i:=23) (v:=.bool (f||h.f)) rfl ag ag ag (λ_ _ _ h=>h) ?_ cy ?_
  ·cases f
   ·refine Or.inl ⟨?_,?_⟩
    ·rfl
    ·(intro w hSw;(try dsimp only at hSw);first|(go_simp;done)|(go_simp;with_reducible rfl))
   ·refine Or.inl ⟨?_,?_⟩
    ·rfl
    ·(intro w hSw;(try dsimp only at hSw);first|(go_simp;done)|(go_simp;with_reducible rfl))
  refine sm ?_;refine vH 24 ?_ ?_;refine wpAnyH_ready (rs:=[25]) ag ah ?_;refine AllReadyH.cons rfl (λK hK=> ?_) AllReadyH.nil;go_simp;refine hK.out _ _ (KS _ (G2.alloc _) (H2.alloc _)) (λhHeld=> ?_);clear hK K;refine sm ?_;refine wpAnyH_ready (rs:=[26]) ag ah ?_;refine AllReadyH.cons rfl (λK hK=> ?_) AllReadyH.nil;go_simp;refine hK.out _ _ (KS _ (G2.alloc _) (H2.alloc _)) (λhHeld=> ?_);clear hK K;refine sm ?_;have GW:=G2.alloc (.cells #[.bool (n||h.n),.bool J.n,.int .i64 J.lo,.int .i64 J.hi,.bool (t||h.t),.bool (f||h.f),.slice none 0 0] 91);have HW:=H2.alloc (.cells #[.bool (n||h.n),.bool J.n,.int .i64 J.lo,.int .i64 J.hi,.bool (t||h.t),.bool (f||h.f),.slice none 0 0] 91);have RW:=R2.alloc (.cells #[.bool (n||h.n),.bool J.n,.int .i64 J.lo,.int .i64 J.hi,.bool (t||h.t),.bool (f||h.f),.slice none 0 0] 91);have FW:=F2.alloc (.cells #[.bool (n||h.n),.bool J.n,.int .i64 J.lo,.int .i64 J.hi,.bool (t||h.t),.bool (f||h.f),.slice none 0 0] 91);have BW:=B2.alloc B2.size (.cells #[.bool (n||h.n),.bool J.n,.int .i64 J.lo,.int .i64 J.hi,.bool (t||h.t),.bool (f||h.f),.slice none 0 0] 91);have UW:GuAt (w2.alloc (.cells #[.bool (n||h.n),.bool J.n,.int .i64 J.lo,.int .i64 J.hi,.bool (t||h.t),.bool (f||h.f),.slice none 0 0] 91)) w2.heap.size 0 ⟨n||h.n,J,t||h.t,f||h.f,bK sl h.s 0⟩ none 0:=GuAt.new w2 ⟨n||h.n,J,t||h.t,f||h.f,[]⟩ none 0;have XW:Fr7 (w2.alloc (.cells #[.bool (n||h.n),.bool J.n,.int .i64 J.lo,.int .i64 J.hi,.bool (t||h.t),.bool (f||h.f),.slice none 0 0] 91)) w2.heap.size:=⟨λj=>aW,ah⟩;have zo:w.heap.size+1+1 < w2.heap.size:=F2.2;have zw:=XW.2;clear G2 H2 R2 F2 B2;generalize w2.alloc (.cells #[.bool (n||h.n),.bool J.n,.int .i64 J.lo,.int .i64 J.hi,.bool (t||h.t),.bool (f||h.f),.slice none 0 0] 91)=W at *;generalize w2.heap.size=ob at *;refine wpAnyH_done ag ?_ _;generalize (if n=true then undef else(.pointer (some ⟨w.heap.size+1,0,none⟩):Value))=y0;generalize (if n=true then undef else(.bool h.n:Value))=y1;generalize (if t=true then undef else(.pointer (some ⟨w.heap.size+1,4,none⟩):Value))=y2;generalize (if t=true then undef else(.bool h.t:Value))=y3;generalize (if f=true then undef else(.pointer (some ⟨w.heap.size+1,5,none⟩):Value))=y4;generalize (if f=true then undef else(.bool h.f:Value))=y5;clear hHeld KS HJ;go_wp2;go_loopw [8] (λi wr=>∃(k:Nat) (vs:oA) (vc:Nat),k<=60/\i=.int .i64 k/\GuAt wr w.heap.size 0 ⟨n,sp,t,f,sl⟩ ss gc/\GuAt wr (w.heap.size+1) 0 h st hc/\GuAt wr (w.heap.size+1+1) 0 bG none 0/\Fr7 wr (w.heap.size+1+1)/\GuAt wr ob 0 ⟨n||h.n,J,t||h.t,f||h.f,bK sl h.s k⟩ vs vc/\Fr7 wr ob/\wr.ownsRow W.heap.size 3 1 (.slice vs (bK sl h.s k).length vc) (bK sl h.s k).length ((bK sl h.s k).map (.int .i64))/\W.heap.size<=wr.heap.size/\bl w wr) (λi _=>60 - (intOf i).toNat)
  case atStart=>exact⟨0,none,0,aa,rfl,GW,HW,RW,FW,UW,XW,⟨by simp[bK],.inl ⟨rfl,by simp[bK]⟩⟩,Nat.le_refl _,BW⟩
  case round=>
   obtain⟨k,vs,vc,hk,rfl,GR,HR,RR,FR,UR,XR,OR,zR,BR⟩:=hrel;clear GW HW RW FW UW XW BW;have IR:=hs.below BR (Nat.le_refl _);have JR:=ht.below BR (Nat.le_refl _);obtain⟨⟨g0,g1,g2,g3,g4,g5,g6⟩,gz⟩:=id GR;obtain⟨⟨k0,k1,k2,k3,k4,k5,k6⟩,kz⟩:=id HR;obtain⟨⟨u0,u1,u2,u3,u4,u5,u6⟩,uz⟩:=id UR;simp only[Nat.zero_add] at g0 g1 g2 g3 g4 g5 g6 k0 k1 k2 k3 k4 k5 k6 u0 u1 u2 u3 u4 u5 u6;by_cases hlt:k < 60
   ·have n1:(k:Int) < 60:=by omega
    exact tT
   ·have hk':k=60:=by omega
    subst hk';obtain⟨⟨r0,r1,r2,r3,r4,r5,r6⟩,rz⟩:=id RR;simp only[Nat.zero_add,bG] at r0 r1 r2 r3 r4 r5 r6;have fz:=FR.1;go_wp2;refine bodyPost_ret (v:=.agg #[.bool (n||h.n),.bool J.n,.int .i64 J.lo,.int .i64 J.hi,.bool (t||h.t),.bool (f||h.f),.slice vs (bK sl h.s 60).length vc]) Ec rfl ⟨_,rfl,?_,?_⟩
    ·exact fK (fM OR aa) aa
    ·exact bp BR aa
 ·go_simp
  have GA:=(G1.alloc (.cells #[.bool false,.bool false,.int .i64 0,.int .i64 0,.bool false,.bool false,.slice none 0 0] 91)).drew;have HA:=(H1.alloc (.cells #[.bool false,.bool false,.int .i64 0,.int .i64 0,.bool false,.bool false,.slice none 0 0] 91)).drew;have RA:=(R1.alloc (.cells #[.bool false,.bool false,.int .i64 0,.int .i64 0,.bool false,.bool false,.slice none 0 0] 91)).drew;have FA:=(F1.alloc (.cells #[.bool false,.bool false,.int .i64 0,.int .i64 0,.bool false,.bool false,.slice none 0 0] 91)).drew;have BA:=(B1.alloc B1.size (.cells #[.bool false,.bool false,.int .i64 0,.int .i64 0,.bool false,.bool false,.slice none 0 0] 91)).drew;have UA:GuAt (w1.alloc (.cells #[.bool false,.bool false,.int .i64 0,.int .i64 0,.bool false,.bool false,.slice none 0 0] 91)).drew w1.heap.size 0 bG none 0:=(GuAt.new w1 bG none 0).drew;have XA:Fr7 (w1.alloc (.cells #[.bool false,.bool false,.int .i64 0,.int .i64 0,.bool false,.bool false,.slice none 0 0] 91)).drew w1.heap.size:=Fr7.drew ⟨λj=>aW,ah⟩;have zo:w.heap.size+1+1 < w1.heap.size:=F1.2;refine hK.out _ _ (KS _ GA HA) (λhHeld=> ?_);clear hK K G1 H1 R1 F1 B1;refine sm ?_;refine wpAnyH_ready (rs:=[11]) ag ah ?_;refine AllReadyH.cons rfl (λK hK=> ?_) AllReadyH.nil;go_simp;refine(HJ.out _).mono ?_;rintro e w2 ⟨rfl,hb2⟩;have G2:=GA.call hb2;have H2:=HA.call hb2;have R2:=RA.call hb2;have F2:=FA.call hb2;have U2:=UA.call hb2;have X2:=XA.call hb2;have B2:bl w w2:=BA.trans (hb2.mono BA.size);clear hb2 GA HA RA FA BA UA XA;generalize w1.heap.size=ob at *;refine hK.out _ _ (KS _ G2 H2) (λhHeld=> ?_);clear hK K;refine sm ?_;refine vH 14 ?_ ?_;refine wpAnyH_take (i:=15) (v:=if t=true then undef else .pointer (some ⟨w.heap.size+1,4,none⟩)) rfl ag ag ag (λ_ _ _ h=>h) ?_ cy ?_
  ·cases t
   ·refine Or.inl ⟨?_,?_⟩
    ·rfl
    ·(intro w hSw;(try dsimp only at hSw);first|(go_simp;done)|(go_simp;with_reducible rfl))
   ·exact Or.inr ⟨rfl,rfl⟩
  refine sm ?_;refine wpAnyH_take (i:=16) (v:=if t=true then undef else .bool h.t) rfl ag ag ag (λ_ _ _ h=>h) ?_ cy ?_
  ·cases t
   ·refine Or.inl ⟨?_,?_⟩
    ·rfl
    ·(intro w hSw;(try dsimp only at hSw);first|(go_simp;done)|(go_simp;with_reducible rfl))
   ·exact Or.inr ⟨rfl,rfl⟩
  refine sm ?_;refine wpAnyH_take (i:=17) (v:=.bool (t||h.t)) rfl ag ag ag (λ_ _ _ h=>h) ?_ cy ?_
  ·cases t
   ·refine Or.inl ⟨?_,?_⟩
    ·rfl
    ·(intro w hSw;(try dsimp only at hSw);first|(go_simp;done)|(go_simp;with_reducible rfl))
   ·refine Or.inl ⟨?_,?_⟩
    ·rfl
    ·(intro w hSw;(try dsimp only at hSw);first|(go_simp;done)|(go_simp;with_reducible rfl))
  refine sm ?_;refine vH 20 ?_ ?_;refine wpAnyH_take (i:=21) (v:=if f=true then undef else .pointer (some ⟨w.heap.size+1,5,none⟩)) rfl ag ag ag (λ_ _ _ h=>h) ?_ cy ?_
  ·cases f
   ·refine Or.inl ⟨?_,?_⟩
    ·rfl
    ·(intro w hSw;(try dsimp only at hSw);first|(go_simp;done)|(go_simp;with_reducible rfl))
   ·exact Or.inr ⟨rfl,rfl⟩
  refine sm ?_;refine wpAnyH_take (i:=22) (v:=if f=true then undef else .bool h.f) rfl ag ag ag (λ_ _ _ h=>h) ?_ cy ?_
  ·cases f
   ·refine Or.inl ⟨?_,?_⟩
    ·rfl
    ·(intro w hSw;(try dsimp only at hSw);first|(go_simp;done)|(go_simp;with_reducible rfl))
   ·exact Or.inr ⟨rfl,rfl⟩
  refine sm ?_;refine wpAnyH_take (i:=23) (v:=.bool (f||h.f)) rfl ag ag ag (λ_ _ _ h=>h) ?_ cy ?_
  ·cases f
   ·refine Or.inl ⟨?_,?_⟩
    ·rfl
    ·(intro w hSw;(try dsimp only at hSw);first|(go_simp;done)|(go_simp;with_reducible rfl))
   ·refine Or.inl ⟨?_,?_⟩
    ·rfl
    ·(intro w hSw;(try dsimp only at hSw);first|(go_simp;done)|(go_simp;with_reducible rfl))
  refine sm ?_;refine vH 24 ?_ ?_;obtain⟨⟨o0,o1,o2,o3,o4,o5,o6⟩,oz⟩:=id U2;simp only[Nat.zero_add,bG] at o0 o1 o2 o3 o4 o5 o6;have fzo:=X2.1;refine wpAnyH_ready (rs:=[26]) ag ah ?_;refine AllReadyH.cons rfl (λK hK=> ?_) AllReadyH.nil;go_simp;have GW:=GuAt.put7 (b:=ob) (v0:=.bool (n||h.n)) (v1:=.bool J.n) (v2:=.int .i64 J.lo) (v3:=.int .i64 J.hi) (v4:=.bool (t||h.t)) (v5:=.bool (f||h.f)) (v6:=.slice none 0 0) G2 aa;have HW:=GuAt.put7 (b:=ob) (v0:=.bool (n||h.n)) (v1:=.bool J.n) (v2:=.int .i64 J.lo) (v3:=.int .i64 J.hi) (v4:=.bool (t||h.t)) (v5:=.bool (f||h.f)) (v6:=.slice none 0 0) H2 aa;have RW:=GuAt.put7 (b:=ob) (v0:=.bool (n||h.n)) (v1:=.bool J.n) (v2:=.int .i64 J.lo) (v3:=.int .i64 J.hi) (v4:=.bool (t||h.t)) (v5:=.bool (f||h.f)) (v6:=.slice none 0 0) R2 aa;have FW:Fr7 (ik w2 ob (.bool (n||h.n)) (.bool J.n) (.int .i64 J.lo) (.int .i64 J.hi) (.bool (t||h.t)) (.bool (f||h.f)) (.slice none 0 0)) (w.heap.size+1+1):=((((((F2.set).set).set).set).set).set).set;have XW:Fr7 (ik w2 ob (.bool (n||h.n)) (.bool J.n) (.int .i64 J.lo) (.int .i64 J.hi) (.bool (t||h.t)) (.bool (f||h.f)) (.slice none 0 0)) ob:=((((((X2.set).set).set).set).set).set).set;have UW:GuAt (ik w2 ob (.bool (n||h.n)) (.bool J.n) (.int .i64 J.lo) (.int .i64 J.hi) (.bool (t||h.t)) (.bool (f||h.f)) (.slice none 0 0)) ob 0 ⟨n||h.n,J,t||h.t,f||h.f,bK sl h.s 0⟩ none 0:=⟨by simp[go_sem,ik,o0,o1,o2,o3,o4,o5,o6,bK],by rw[pE];exact oz⟩;have BW:bl w (ik w2 ob (.bool (n||h.n)) (.bool J.n) (.int .i64 J.lo) (.int .i64 J.hi) (.bool (t||h.t)) (.bool (f||h.f)) (.slice none 0 0)):=bp B2 aa;refine hK.out _ _ (KS _ GW HW) (λhHeld=> ?_);have zw:=XW.2;clear hK K G2 H2 R2 F2 U2 X2 B2 o0 o1 o2 o3 o4 o5 o6 fzo oz;refine sm ?_;unfold ik at GW HW RW FW XW UW BW zw;generalize ((((((w2.setCell ⟨ob,0,none⟩ (.bool (n||h.n))).setCell ⟨ob,1,none⟩ (.bool J.n)).setCell ⟨ob,2,none⟩ (.int .i64 J.lo)).setCell ⟨ob,3,none⟩ (.int .i64 J.hi)).setCell ⟨ob,4,none⟩ (.bool (t||h.t))).setCell ⟨ob,5,none⟩ (.bool (f||h.f))).setCell ⟨ob,6,none⟩ (.slice none 0 0)=W at *;refine wpAnyH_done ag ?_ _;generalize (if n=true then undef else(.pointer (some ⟨w.heap.size+1,0,none⟩):Value))=y0;generalize (if n=true then undef else(.bool h.n:Value))=y1;generalize (if t=true then undef else(.pointer (some ⟨w.heap.size+1,4,none⟩):Value))=y2;generalize (if t=true then undef else(.bool h.t:Value))=y3;generalize (if f=true then undef else(.pointer (some ⟨w.heap.size+1,5,none⟩):Value))=y4;generalize (if f=true then undef else(.bool h.f:Value))=y5;clear hHeld KS HJ;go_wp2;go_loopw [8] (λi wr=>∃(k:Nat) (vs:oA) (vc:Nat),k<=60/\i=.int .i64 k/\GuAt wr w.heap.size 0 ⟨n,sp,t,f,sl⟩ ss gc/\GuAt wr (w.heap.size+1) 0 h st hc/\GuAt wr (w.heap.size+1+1) 0 bG none 0/\Fr7 wr (w.heap.size+1+1)/\GuAt wr ob 0 ⟨n||h.n,J,t||h.t,f||h.f,bK sl h.s k⟩ vs vc/\Fr7 wr ob/\wr.ownsRow W.heap.size 3 1 (.slice vs (bK sl h.s k).length vc) (bK sl h.s k).length ((bK sl h.s k).map (.int .i64))/\W.heap.size<=wr.heap.size/\bl w wr) (λi _=>60 - (intOf i).toNat)
  case atStart=>exact⟨0,none,0,aa,rfl,GW,HW,RW,FW,UW,XW,⟨by simp[bK],.inl ⟨rfl,by simp[bK]⟩⟩,Nat.le_refl _,BW⟩
  case round=>
   obtain⟨k,vs,vc,hk,rfl,GR,HR,RR,FR,UR,XR,OR,zR,BR⟩:=hrel;clear GW HW RW FW UW XW BW;have IR:=hs.below BR (Nat.le_refl _);have JR:=ht.below BR (Nat.le_refl _);obtain⟨⟨g0,g1,g2,g3,g4,g5,g6⟩,gz⟩:=id GR;obtain⟨⟨k0,k1,k2,k3,k4,k5,k6⟩,kz⟩:=id HR;obtain⟨⟨u0,u1,u2,u3,u4,u5,u6⟩,uz⟩:=id UR;simp only[Nat.zero_add] at g0 g1 g2 g3 g4 g5 g6 k0 k1 k2 k3 k4 k5 k6 u0 u1 u2 u3 u4 u5 u6;by_cases hlt:k < 60
   ·have n1:(k:Int) < 60:=by omega
    exact tT
   ·have hk':k=60:=by omega
    subst hk';obtain⟨⟨r0,r1,r2,r3,r4,r5,r6⟩,rz⟩:=id RR;simp only[Nat.zero_add,bG] at r0 r1 r2 r3 r4 r5 r6;have fz:=FR.1;go_wp2;refine bodyPost_ret (v:=.agg #[.bool (n||h.n),.bool J.n,.int .i64 J.lo,.int .i64 J.hi,.bool (t||h.t),.bool (f||h.f),.slice vs (bK sl h.s 60).length vc]) Ec rfl ⟨_,rfl,?_,?_⟩
    ·exact fK (fM OR aa) aa
    ·exact bp BR aa):p:=h
end
section
theorem nT:∀(a b:List Int),a.Pairwise (· < ·)->b.Pairwise (· < ·)->(∀x,x∈a↔x∈b)->a=b
 |[],[],_,_,_=>rfl
 |[],y::b,_,_,h=>absurd ((h y).2 ah) ah
 |x::a,[],_,_,h=>absurd ((h x).1 ah) ah
 |x::a,y::b,ha,hb,h=>by
  rw[List.pairwise_cons] at ha hb;have exy:x=y:=by
   have h1:=(h x).1 ah;have h2:=(h y).2 ah;rw[j7] at h1 h2;rcases h1 with e|h1
   ·exact e
   ·rcases h2 with e|h2
    ·exact e.symm
    ·have:=ha.1 y h2
     have:=hb.1 x h1;omega
  subst exy;rw[nT a b ha.2 hb.2 λz=> ?_];constructor
  ·intro hz
   have:=(h z).1 (by simp[hz]);rw[j7] at this;rcases this with e|h1
   ·have:=ha.1 z hz;omega
   ·exact h1
  ·intro hz
   have:=(h z).2 (by simp[hz]);rw[j7] at this;rcases this with e|h1
   ·have:=hb.1 z hz;omega
   ·exact h1

theorem ug (a b:List Int)(k:Nat)(x:Int):x∈bK a b k↔(0<=x/\x < k)/\(x∈a\/x∈b):=by
 unfold bK;rw[j2,q9];simp only[j3,Bool.or_eq_true,List.contains_iff_mem];constructor
 ·rintro ⟨⟨n,hn,rfl⟩,h⟩
  exact⟨⟨aa,aa⟩,h⟩
 ·rintro ⟨⟨h0,h1⟩,h⟩
  exact⟨⟨x.toNat,aa,aa⟩,h⟩

theorem pS (a b:List Int)(k:Nat):(bK a b k).Pairwise (· < ·):=by
 unfold bK;refine j4.filter _ ?_;rw[z0];exact j4.imp (λh=>aa) z1

open Go.Lib in
theorem yE (l:List Int)(h:l.Pairwise (· <=·)):(compact l).Pairwise (· < ·)/\∀x,x∈compact l↔x∈l:=by
 have get:∀j (hj:j < l.length),l.toArray[j]! =l[j]:=λj hj=>by simp[hj]
 have mono:∀i j (hi:i < l.length) (hj:j < l.length),i<=j->l[i]<=l[j]:=by
  intro i j hi hj hij;by_cases e:i=j
  ·subst e;exact Int.le_refl _
  ·exact List.pairwise_iff_getElem.1 h i j hi hj aa
 constructor
 ·unfold compact compactUpTo
  rw[z0];refine j4.imp_of_mem ?_ (j4.filter _ z1);intro i j hi hj hij;rw[j2,j3] at hi hj;rw[get i hi.1,get j hj.1];have hk:=hj.2;unfold keeps at hk;rw[decide_eq_true_eq] at hk;rcases hk with e|hne
  ·omega
  ·rw[get j hj.1,get (j - 1) aa] at hne
   have h1:=mono i (j - 1) hi.1 aa aa;have h2:=mono (j - 1) j aa hj.1 aa;omega
 ·intro x
  unfold compact compactUpTo;rw[q9];constructor
  ·rintro ⟨j,hj,rfl⟩
   rw[j2,j3] at hj;rw[get j hj.1];exact gM _
  ·intro hx
   obtain⟨j,hj,rfl⟩:=List.getElem_of_mem hx;have ex:∃i,i<=j/\∃(hi:i < l.length),l[i]=l[j]/\keeps l.toArray i=true:=by
    clear hx;induction j with
    |zero=>exact⟨0,lR _,hj,rfl,by simp[keeps]⟩
    |succ j ih=>
     by_cases e:l[j+1]=l[j]
     ·obtain⟨i,hi,hil,h1,h2⟩:=ih aa
      exact⟨i,aa,hil,by rw[h1,e],h2⟩
     ·refine⟨j+1,lR _,hj,rfl,?_⟩
      unfold keeps;rw[decide_eq_true_eq];right;rw[get (j+1) hj,get (j+1 - 1) aa];exact e
   obtain⟨i,-,hil,h1,h2⟩:=ex;refine⟨i,?_,by rw[get i hil,h1]⟩;rw[j2,j3];exact⟨hil,h2⟩

theorem kZ (g h:Gs)(hg:∀x∈g.s,0<=x/\x < 60)(hh:∀x∈h.s,0<=x/\x < 60):cL [g,h]=bK g.s h.s 60:=by
 have hs:(([g,h].flatMap Gs.s).mergeSort λx y=>decide (x<=y)).Pairwise (· <=·):=by
  have:=List.pairwise_mergeSort (le:=λx y:Int=>decide (x<=y)) (by intro a b c;simp;omega) (by intro a b;simp;omega) ([g,h].flatMap Gs.s);exact this.imp λh=>cA
 obtain⟨h1,h2⟩:=yE _ hs;refine nT _ _ h1 (pS _ _ _) λx=> ?_;rw[show cL [g,h]=Go.Lib.compact (([g,h].flatMap Gs.s).mergeSort λx y=>decide (x<=y)) from rfl,h2,List.mem_mergeSort,ug];simp only[List.flatMap_cons,List.flatMap_nil,q8,List.mem_append];constructor
 ·rintro (h|h)
  ·exact⟨hg x h,.inl h⟩
  ·exact⟨hh x h,.inr h⟩
 ·exact λh=>h.2

theorem Kj {c:List Ins}(hl:c.length<=60){x:Int}(h:cn c x=true):0<=x/\x < 60:=by
 unfold cn at h;simp only[Bool.and_eq_true,decide_eq_true_eq] at h;omega

theorem cV {c:List Ins}{g:Gs}(hl:c.length<=60)(h:aE c g=0):(∀x∈g.s,0<=x/\x < 60)/\dj g.s=true:=by
 unfold aE at h;split at h
 ·contradiction
 ·split at h
  ·cases h
  ·split at h
   ·cases h
   ·rename_i h1 h2
    refine⟨λx hx=> ?_,iY⟩;have:g.s.all (cn c)=true:=ge;exact Kj hl (List.all_eq_true.1 this x hx)
theorem cM {l:List Int}(hr:dj l=true)(hb:∀x∈l,0<=x/\x < 60):l.length<=60:=by
 have key:∀k (h:k < l.length),(k:Int)<=l[k]:=by
  intro k;induction k with
  |zero=>intro h;exact(hb _ (gM h)).1
  |succ k ih=>
   intro h;have h1:=ih aa;have h2:=(uW l).1 hr k h;omega
 by_cases h0:l.length=0
 ·omega
 ·have h1:=key (l.length - 1) aa
  have h2:=(hb _ (gM (show l.length - 1 < l.length by omega))).2;omega
end
section
open Go.RowKit
theorem yG (g:Gs)(ss:oA)(gc:Nat)(h:Gs)(st:oA)(hc:Nat)(w:World)(hs:IntsAt w ss g.s)(hgl:g.s.length<=9223372036854775807)(ht:IntsAt w st h.s)(hlt':h.s.length<=9223372036854775807):
  Calls pG 114 #[gv g ss gc,gv h st hc,Bb false] w λe w'=>∃v,e=Rt (Ag #[Bb (g.n||h.n),Bb (bj g.sp h.sp).n,I Y (bj g.sp h.sp).lo,I Y (bj g.sp h.sp).hi,Bb (g.t||h.t),Bb (g.f||h.f),v])/\w'.ownsRow w.heap.size 3 1 v (bK g.s h.s 60).length ((bK g.s h.s 60).map (.int .i64))/\bl w w':=by
 obtain⟨ti,hi,hz0,hz1,hz2⟩:=info_parts Tryz.info_intG;obtain⟨G0,H0,B0⟩:=Ca w g ss gc h st hc;have G1:=G0.alloc (Cc #[Bb false,Bb false,I Y 0,I Y 0,Bb false,Bb false,U nO 0 0] 91);have H1:=H0.alloc (Cc #[Bb false,Bb false,I Y 0,I Y 0,Bb false,Bb false,U nO 0 0] 91);have B1:=B0.alloc B0.size (Cc #[Bb false,Bb false,I Y 0,I Y 0,Bb false,Bb false,U nO 0 0] 91);have R1:GuAt (((w.alloc (Cc #[Bb g.n,Bb g.sp.n,I Y g.sp.lo,I Y g.sp.hi,Bb g.t,Bb g.f,U ss g.s.length gc] 91)).alloc (Cc #[Bb h.n,Bb h.sp.n,I Y h.sp.lo,I Y h.sp.hi,Bb h.t,Bb h.f,U st h.s.length hc] 91)).alloc (Cc #[Bb false,Bb false,I Y 0,I Y 0,Bb false,Bb false,U nO 0 0] 91)) (w.heap.size+1+1) 0 bG nO 0:=by
  have:=GuAt.new ((w.alloc (Cc #[Bb g.n,Bb g.sp.n,I Y g.sp.lo,I Y g.sp.hi,Bb g.t,Bb g.f,U ss g.s.length gc] 91)).alloc (Cc #[Bb h.n,Bb h.sp.n,I Y h.sp.lo,I Y h.sp.hi,Bb h.t,Bb h.f,U st h.s.length hc] 91)) bG nO 0;simp only[zA] at this;exact this
 have F1:Fr7 (((w.alloc (Cc #[Bb g.n,Bb g.sp.n,I Y g.sp.lo,I Y g.sp.hi,Bb g.t,Bb g.f,U ss g.s.length gc] 91)).alloc (Cc #[Bb h.n,Bb h.sp.n,I Y h.sp.lo,I Y h.sp.hi,Bb h.t,Bb h.f,U st h.s.length hc] 91)).alloc (Cc #[Bb false,Bb false,I Y 0,I Y 0,Bb false,Bb false,U nO 0 0] 91)) (w.heap.size+1+1):=⟨λj=>aW,ah⟩;have HJ:=ae (λw=>Bm g.sp h.sp w);generalize bj g.sp h.sp=J at HJ |-;exact uJ
theorem wL (g:Gs)(ss:oA)(gc:Nat)(h:Gs)(st:oA)(hc:Nat)(w:World)(hs:IntsAt w ss g.s)(hgl:g.s.length<=9223372036854775807)(ht:IntsAt w st h.s)(hlt':h.s.length<=9223372036854775807):
  Calls pG 114 #[gv g ss gc,gv h st hc,Bb true] w λe w'=>∃v,e=Rt (Ag #[Bb (g.n||h.n),Bb (br g.sp h.sp).n,I Y (br g.sp h.sp).lo,I Y (br g.sp h.sp).hi,Bb (g.t||h.t),Bb (g.f||h.f),v])/\w'.ownsRow w.heap.size 3 1 v (bK g.s h.s 60).length ((bK g.s h.s 60).map (.int .i64))/\bl w w':=by
 obtain⟨ti,hi,hz0,hz1,hz2⟩:=info_parts Tryz.info_intG;obtain⟨G0,H0,B0⟩:=Ca w g ss gc h st hc;have G1:=G0.alloc (Cc #[Bb false,Bb false,I Y 0,I Y 0,Bb false,Bb false,U nO 0 0] 91);have H1:=H0.alloc (Cc #[Bb false,Bb false,I Y 0,I Y 0,Bb false,Bb false,U nO 0 0] 91);have B1:=B0.alloc B0.size (Cc #[Bb false,Bb false,I Y 0,I Y 0,Bb false,Bb false,U nO 0 0] 91);have R1:GuAt (((w.alloc (Cc #[Bb g.n,Bb g.sp.n,I Y g.sp.lo,I Y g.sp.hi,Bb g.t,Bb g.f,U ss g.s.length gc] 91)).alloc (Cc #[Bb h.n,Bb h.sp.n,I Y h.sp.lo,I Y h.sp.hi,Bb h.t,Bb h.f,U st h.s.length hc] 91)).alloc (Cc #[Bb false,Bb false,I Y 0,I Y 0,Bb false,Bb false,U nO 0 0] 91)) (w.heap.size+1+1) 0 bG nO 0:=by
  have:=GuAt.new ((w.alloc (Cc #[Bb g.n,Bb g.sp.n,I Y g.sp.lo,I Y g.sp.hi,Bb g.t,Bb g.f,U ss g.s.length gc] 91)).alloc (Cc #[Bb h.n,Bb h.sp.n,I Y h.sp.lo,I Y h.sp.hi,Bb h.t,Bb h.f,U st h.s.length hc] 91)) bG nO 0;simp only[zA] at this;exact this
 have F1:Fr7 (((w.alloc (Cc #[Bb g.n,Bb g.sp.n,I Y g.sp.lo,I Y g.sp.hi,Bb g.t,Bb g.f,U ss g.s.length gc] 91)).alloc (Cc #[Bb h.n,Bb h.sp.n,I Y h.sp.lo,I Y h.sp.hi,Bb h.t,Bb h.f,U st h.s.length hc] 91)).alloc (Cc #[Bb false,Bb false,I Y 0,I Y 0,Bb false,Bb false,U nO 0 0] 91)) (w.heap.size+1+1):=⟨λj=>aW,ah⟩;have HJ:=ae (λw=>BO g.sp h.sp w);generalize br g.sp h.sp=J at HJ |-;exact uJ
theorem MQ (V F:Int)(s:oA)(c:List Ins)(cap:Nat)(g:Gs)(ss:oA)(gc:Nat)(h:Gs)(st:oA)(hc:Nat)(kind:Int)(w:World)
  (hcd:CodeAt w s c)(hs:IntsAt w ss g.s)(h1:g.s.length<=gc)(h2:gc<=maxLen)(ht:IntsAt w st h.s)(h3:h.s.length<=hc)(h4:hc<=maxLen)(hck:aZ V F c [g,h]≠0):
  Calls pG 164 #[pv V F s c cap,I Y kind,gv g ss gc,gv h st hc] w λe w'=>e=Rt (Tu #[gv bG nO 0,Bb false,I Y (aZ V F c [g,h])])/\bl w w':=by
 obtain⟨P0,G0,H0,R0,F0⟩:=eP w V F s c cap g ss gc h st hc;have B0:=dg w V F s c cap g ss gc h st hc;have C0:CodeAt (bQ w V F s c cap g ss gc h st hc) s c:=hcd.below B0 (lR _);have I0:IntsAt (bQ w V F s c cap g ss gc h st hc) ss g.s:=hs.below B0 (lR _);have J0:IntsAt (bQ w V F s c cap g ss gc h st hc) st h.s:=ht.below B0 (lR _);have L0:=GsAt.new2 (bQ w V F s c cap g ss gc h st hc) g ss gc h st hc I0 h1 h2 J0 h3 h4;simp only[zA] at L0;have HC:=ae (cq V F s c cap (sO ⟨w.heap.size+1+1+1+1,0,nO⟩) [g,h] 2 _ (C0.alloc _) L0 ah);have hne:(aZ V F c [g,h]!=0)=true:=by simpa using hck
 generalize aZ V F c [g,h]=ce at HC hne |-;clear hck;go_enter Tryz.func164,Tryz.ntmps164;go_wp2_with (go_at_call 142;fail);refine HC.out.mono ?_;rintro e w1 ⟨rfl,hb1⟩;have G1:=(G0.alloc _).call hb1;have H1:=(H0.alloc _).call hb1;have R1:=(R0.alloc _).call hb1;have I1:=(I0.alloc _).call hb1;have J1:=(J0.alloc _).call hb1;have F1:Fr7 w1 (w.heap.size+1+1+1):=(F0.alloc _).call hb1;have B1:bl w w1:=(B0.alloc B0.size _).trans (hb1.mono an);clear hb1 G0 H0 R0 I0 J0 F0 B0 C0 P0 L0 hcd hs ht HC;obtain⟨⟨g0,g1,g2,g3,g4,g5,g6⟩,gz⟩:=id G1;obtain⟨⟨k0,k1,k2,k3,k4,k5,k6⟩,kz⟩:=id H1;simp only[j0] at g0 g1 g2 g3 g4 g5 g6 k0 k1 k2 k3 k4 k5 k6;obtain⟨⟨r0,r1,r2,r3,r4,r5,r6⟩,rz⟩:=id R1;simp only[j0,bG] at r0 r1 r2 r3 r4 r5 r6;have fz:=F1.1;go_wp2;refine bodyPost_ret (v:=Tu #[gv bG nO 0,Bb false,I Y ce]) Ew rfl ⟨rfl,?_⟩;exact bp B1 aa

theorem LU (V F:Int)(s:oA)(c:List Ins)(cap:Nat)(g:Gs)(ss:oA)(gc:Nat)(h:Gs)(st:oA)(hc:Nat)(kind:Int)(w:World)
  (hcd:CodeAt w s c)(hs:IntsAt w ss g.s)(h1:g.s.length<=gc)(h2:gc<=maxLen)(ht:IntsAt w st h.s)(h3:h.s.length<=hc)(h4:hc<=maxLen)(hck:aZ V F c [g,h]=0)(hk4:(kind==4)=false)(hk5:(kind==5)=false)(hk6:(kind==6)=false)(hk7:(kind==7)=false)(hk8:(kind==8)=false)(hk9:(kind==9)=false)(hk10:(kind==10)=false):
  Calls pG 164 #[pv V F s c cap,I Y kind,gv g ss gc,gv h st hc] w λe w'=>e=Rt (Tu #[gv bG nO 0,Bb false,I Y 6])/\bl w w':=by
 obtain⟨P0,G0,H0,R0,F0⟩:=eP w V F s c cap g ss gc h st hc;have B0:=dg w V F s c cap g ss gc h st hc;have C0:CodeAt (bQ w V F s c cap g ss gc h st hc) s c:=hcd.below B0 (lR _);have I0:IntsAt (bQ w V F s c cap g ss gc h st hc) ss g.s:=hs.below B0 (lR _);have J0:IntsAt (bQ w V F s c cap g ss gc h st hc) st h.s:=ht.below B0 (lR _);have L0:=GsAt.new2 (bQ w V F s c cap g ss gc h st hc) g ss gc h st hc I0 h1 h2 J0 h3 h4;simp only[zA] at L0;have HC:=ae (cq V F s c cap (sO ⟨w.heap.size+1+1+1+1,0,nO⟩) [g,h] 2 _ (C0.alloc _) L0 ah);rw[hck] at HC;go_enter Tryz.func164,Tryz.ntmps164;go_wp2_with (go_at_call 142;fail);refine HC.out.mono ?_;rintro e w1 ⟨rfl,hb1⟩;have G1:=(G0.alloc _).call hb1;have H1:=(H0.alloc _).call hb1;have R1:=(R0.alloc _).call hb1;have I1:=(I0.alloc _).call hb1;have J1:=(J0.alloc _).call hb1;have F1:Fr7 w1 (w.heap.size+1+1+1):=(F0.alloc _).call hb1;have B1:bl w w1:=(B0.alloc B0.size _).trans (hb1.mono an);clear hb1 G0 H0 R0 I0 J0 F0 B0 C0 P0 L0 hcd hs ht HC;obtain⟨⟨g0,g1,g2,g3,g4,g5,g6⟩,gz⟩:=id G1;obtain⟨⟨k0,k1,k2,k3,k4,k5,k6⟩,kz⟩:=id H1;simp only[j0] at g0 g1 g2 g3 g4 g5 g6 k0 k1 k2 k3 k4 k5 k6;obtain⟨⟨r0,r1,r2,r3,r4,r5,r6⟩,rz⟩:=id R1;simp only[j0,bG] at r0 r1 r2 r3 r4 r5 r6;have fz:=F1.1;go_wp2;refine bodyPost_ret (v:=Tu #[gv bG nO 0,Bb false,I Y 6]) Ew rfl ⟨rfl,?_⟩;exact bp B1 aa

theorem MJ (V F:Int)(s:oA)(c:List Ins)(cap:Nat)(g:Gs)(ss:oA)(gc:Nat)(h:Gs)(st:oA)(hc:Nat)(w:World)
  (hcd:CodeAt w s c)(hs:IntsAt w ss g.s)(h1:g.s.length<=gc)(h2:gc<=maxLen)(ht:IntsAt w st h.s)(h3:h.s.length<=hc)(h4:hc<=maxLen)(hck:aZ V F c [g,h]=0)(y n:Bool)(hS:∀wx,bl w wx->Calls pG 206 #[gv g ss gc,gv h st hc] wx λe w'=>e=Rt (Tu #[Bb y,Bb n])/\bl wx w'):
  Calls pG 164 #[pv V F s c cap,I Y 9,gv g ss gc,gv h st hc] w λe w'=>e=Rt (Tu #[gv ⟨false,⟨true,0,0⟩,y,n,[]⟩ nO 0,Bb false,I Y 0])/\bl w w':=by
 obtain⟨P0,G0,H0,R0,F0⟩:=eP w V F s c cap g ss gc h st hc;have B0:=dg w V F s c cap g ss gc h st hc;have C0:CodeAt (bQ w V F s c cap g ss gc h st hc) s c:=hcd.below B0 (lR _);have I0:IntsAt (bQ w V F s c cap g ss gc h st hc) ss g.s:=hs.below B0 (lR _);have J0:IntsAt (bQ w V F s c cap g ss gc h st hc) st h.s:=ht.below B0 (lR _);have L0:=GsAt.new2 (bQ w V F s c cap g ss gc h st hc) g ss gc h st hc I0 h1 h2 J0 h3 h4;simp only[zA] at L0;have HC:=ae (cq V F s c cap (sO ⟨w.heap.size+1+1+1+1,0,nO⟩) [g,h] 2 _ (C0.alloc _) L0 ah);rw[hck] at HC;have HS:=ae hS;clear hS;go_enter Tryz.func164,Tryz.ntmps164;go_wp2_with (go_at_call 142;fail);refine HC.out.mono ?_;rintro e w1 ⟨rfl,hb1⟩;have G1:=(G0.alloc _).call hb1;have H1:=(H0.alloc _).call hb1;have R1:=(R0.alloc _).call hb1;have I1:=(I0.alloc _).call hb1;have J1:=(J0.alloc _).call hb1;have F1:Fr7 w1 (w.heap.size+1+1+1):=(F0.alloc _).call hb1;have B1:bl w w1:=(B0.alloc B0.size _).trans (hb1.mono an);clear hb1 G0 H0 R0 I0 J0 F0 B0 C0 P0 L0 hcd hs ht HC;obtain⟨⟨g0,g1,g2,g3,g4,g5,g6⟩,gz⟩:=id G1;obtain⟨⟨k0,k1,k2,k3,k4,k5,k6⟩,kz⟩:=id H1;simp only[j0] at g0 g1 g2 g3 g4 g5 g6 k0 k1 k2 k3 k4 k5 k6;go_wp2_with (go_at_call 206;fail);refine(HS.out _ B1).mono ?_;rintro e w2 ⟨rfl,hb2⟩;have R2:=R1.call hb2;have F2:=F1.call hb2;have B2:=B1.trans (hb2.mono B1.size);clear hb2;go_wp2_with (go_at_call 204;fail);refine(kL _ _ _).mono ?_;rintro e w3 ⟨rfl,hb3⟩;have R3:=R2.call hb3;have F3:=F2.call hb3;have B3:=B2.trans (hb3.mono B2.size);clear hb3;obtain⟨⟨r0,r1,r2,r3,r4,r5,r6⟩,rz⟩:=id R3;simp only[j0,bG] at r0 r1 r2 r3 r4 r5 r6;have fz:=F3.1;go_wp2;refine bodyPost_ret (v:=Tu #[gv ⟨false,⟨true,0,0⟩,y,n,[]⟩ nO 0,Bb false,I Y 0]) rE rfl ⟨rfl,?_⟩;exact bp B3 aa

theorem On (V F:Int)(s:oA)(c:List Ins)(cap:Nat)(g:Gs)(ss:oA)(gc:Nat)(h:Gs)(st:oA)(hc:Nat)(w:World)
  (hcd:CodeAt w s c)(hs:IntsAt w ss g.s)(h1:g.s.length<=gc)(h2:gc<=maxLen)(ht:IntsAt w st h.s)(h3:h.s.length<=hc)(h4:hc<=maxLen)(hck:aZ V F c [g,h]=0)(hsp:cH g.sp=0):
  Calls pG 164 #[pv V F s c cap,I Y 10,gv g ss gc,gv h st hc] w λe w'=>e=Rt (Tu #[gv ⟨false,⟨true,0,0⟩,cQ g,cj g,[]⟩ nO 0,Bb false,I Y 0])/\bl w w':=by
 obtain⟨P0,G0,H0,R0,F0⟩:=eP w V F s c cap g ss gc h st hc;have B0:=dg w V F s c cap g ss gc h st hc;have C0:CodeAt (bQ w V F s c cap g ss gc h st hc) s c:=hcd.below B0 (lR _);have I0:IntsAt (bQ w V F s c cap g ss gc h st hc) ss g.s:=hs.below B0 (lR _);have J0:IntsAt (bQ w V F s c cap g ss gc h st hc) st h.s:=ht.below B0 (lR _);have L0:=GsAt.new2 (bQ w V F s c cap g ss gc h st hc) g ss gc h st hc I0 h1 h2 J0 h3 h4;simp only[zA] at L0;have HC:=ae (cq V F s c cap (sO ⟨w.heap.size+1+1+1+1,0,nO⟩) [g,h] 2 _ (C0.alloc _) L0 ah);rw[hck] at HC;have HS:=ae (λw=>vD g ss gc w hsp);generalize cj g=y at HS |-;generalize cQ g=n at HS |-;clear hsp;go_enter Tryz.func164,Tryz.ntmps164;go_wp2_with (go_at_call 142;fail);refine HC.out.mono ?_;rintro e w1 ⟨rfl,hb1⟩;have G1:=(G0.alloc _).call hb1;have H1:=(H0.alloc _).call hb1;have R1:=(R0.alloc _).call hb1;have I1:=(I0.alloc _).call hb1;have J1:=(J0.alloc _).call hb1;have F1:Fr7 w1 (w.heap.size+1+1+1):=(F0.alloc _).call hb1;have B1:bl w w1:=(B0.alloc B0.size _).trans (hb1.mono an);clear hb1 G0 H0 R0 I0 J0 F0 B0 C0 P0 L0 hcd hs ht HC;obtain⟨⟨g0,g1,g2,g3,g4,g5,g6⟩,gz⟩:=id G1;obtain⟨⟨k0,k1,k2,k3,k4,k5,k6⟩,kz⟩:=id H1;simp only[j0] at g0 g1 g2 g3 g4 g5 g6 k0 k1 k2 k3 k4 k5 k6;go_wp2_with (go_at_call 198;fail);refine(HS.out _).mono ?_;rintro e w2 ⟨rfl,hb2⟩;have R2:=R1.call hb2;have F2:=F1.call hb2;have B2:=B1.trans (hb2.mono B1.size);clear hb2;go_wp2_with (go_at_call 204;fail);refine(kL _ _ _).mono ?_;rintro e w3 ⟨rfl,hb3⟩;have R3:=R2.call hb3;have F3:=F2.call hb3;have B3:=B2.trans (hb3.mono B2.size);clear hb3;obtain⟨⟨r0,r1,r2,r3,r4,r5,r6⟩,rz⟩:=id R3;simp only[j0,bG] at r0 r1 r2 r3 r4 r5 r6;have fz:=F3.1;go_wp2;refine bodyPost_ret (v:=Tu #[gv ⟨false,⟨true,0,0⟩,n,y,[]⟩ nO 0,Bb false,I Y 0]) rE rfl ⟨rfl,?_⟩;exact bp B3 aa
theorem Hu (ss:oA)(cap:Nat)(l:List Int)(w:World)(hl:l.length<=1000000)(hs:IntsAt w ss l):
  Calls pG 179 #[U ss l.length cap] w λe w'=>∃v,e=Rt v/\w'.ownsRow w.heap.size 3 1 v l.length (l.map (.int .i64))/\bl w w':=by
 cases ss with
 |none=>
  have h0:l=[]:=by
   rcases hs with h|⟨_,_,h,_⟩
   ·exact h
   ·cases h
  subst h0;refine(Tryz.slices_Clone_int_nil _ _ _).mono ?_;rintro e w' ⟨rfl,rfl⟩;exact⟨_,rfl,⟨rfl,.inl ⟨rfl,rfl⟩⟩,bR _ _⟩
 |some a=>
  by_cases h0:l=[]
  ·subst h0
   refine(Tryz.slices_Clone_int_zero a cap w).mono ?_;rintro e w' ⟨v,rfl,ho,-,hb⟩;exact⟨_,rfl,ho,hb⟩
  ·obtain⟨b,off,e,hb,hc⟩:=hs.get 0 (List.length_pos_iff.2 h0)
   cases e;refine(Tryz.slices_Clone_int b off l.length cap l w (lR _) aa (λj hj=> ?_)).mono ?_
   ·rw[hc j hj]
    simp[List.getD,List.getElem?_eq_getElem hj]
   ·rintro e w' ⟨v,rfl,ho,-,hb'⟩
    rw[List.take_length] at ho;exact⟨_,rfl,ho,hb'⟩

theorem OI (V F:Int)(s:oA)(c:List Ins)(cap:Nat)(g:Gs)(ss:oA)(gc:Nat)(h:Gs)(st:oA)(hc:Nat)(w:World)
  (hcd:CodeAt w s c)(hs:IntsAt w ss g.s)(h1:g.s.length<=gc)(h2:gc<=maxLen)(ht:IntsAt w st h.s)(h3:h.s.length<=hc)(h4:hc<=maxLen)(hck:aZ V F c [g,h]=0)(hlen:g.s.length<=1000000):
  Calls pG 164 #[pv V F s c cap,I Y 4,gv g ss gc,gv h st hc] w λe w'=>∃v,e=Rt (Tu #[Ag #[Bb g.n,Bb g.sp.n,I Y g.sp.lo,I Y g.sp.hi,Bb g.t,Bb g.f,v],Bb false,I Y 0])/\w'.ownsRow w.heap.size 3 1 v g.s.length (g.s.map (.int .i64))/\bl w w':=by
 obtain⟨P0,G0,H0,R0,F0⟩:=eP w V F s c cap g ss gc h st hc;have B0:=dg w V F s c cap g ss gc h st hc;have C0:CodeAt (bQ w V F s c cap g ss gc h st hc) s c:=hcd.below B0 (lR _);have I0:IntsAt (bQ w V F s c cap g ss gc h st hc) ss g.s:=hs.below B0 (lR _);have J0:IntsAt (bQ w V F s c cap g ss gc h st hc) st h.s:=ht.below B0 (lR _);have L0:=GsAt.new2 (bQ w V F s c cap g ss gc h st hc) g ss gc h st hc I0 h1 h2 J0 h3 h4;simp only[zA] at L0;have HC:=ae (cq V F s c cap (sO ⟨w.heap.size+1+1+1+1,0,nO⟩) [g,h] 2 _ (C0.alloc _) L0 ah);have FG:Fr7 (bQ w V F s c cap g ss gc h st hc) (w.heap.size+1):=⟨λj=>aW,ah⟩;rw[hck] at HC;go_enter Tryz.func164,Tryz.ntmps164;go_wp2_with (go_at_call 142;fail);refine HC.out.mono ?_;rintro e w1 ⟨rfl,hb1⟩;have G1:=(G0.alloc _).call hb1;have H1:=(H0.alloc _).call hb1;have R1:=(R0.alloc _).call hb1;have I1:=(I0.alloc _).call hb1;have J1:=(J0.alloc _).call hb1;have F1:Fr7 w1 (w.heap.size+1+1+1):=(F0.alloc _).call hb1;have B1:bl w w1:=(B0.alloc B0.size _).trans (hb1.mono an);have X1:Fr7 w1 (w.heap.size+1):=(FG.alloc _).call hb1;clear hb1 FG G0 H0 R0 I0 J0 F0 B0 C0 P0 L0 hcd hs ht HC;obtain⟨⟨g0,g1,g2,g3,g4,g5,g6⟩,gz⟩:=id G1;obtain⟨⟨k0,k1,k2,k3,k4,k5,k6⟩,kz⟩:=id H1;simp only[j0] at g0 g1 g2 g3 g4 g5 g6 k0 k1 k2 k3 k4 k5 k6;go_wp2_with (go_at_call 179;fail);refine(Hu ss gc g.s _ hlen I1).mono ?_;rintro e w2 ⟨v,rfl,hown,hb2⟩;have G2:=G1.call hb2;have R2:=R1.call hb2;have F2:=F1.call hb2;have X2:=X1.call hb2;have B2:=B1.trans (hb2.mono B1.size);have z2:=F1.2;clear hb2 g0 g1 g2 g3 g4 g5 g6 gz k0 k1 k2 k3 k4 k5 k6 kz;have O2:=hown;obtain⟨vs,vc,hv,-,-,-,-⟩:=IntsAt.own hown;subst hv;obtain⟨⟨g0,g1,g2,g3,g4,g5,g6⟩,gz⟩:=id G2;simp only[j0] at g0 g1 g2 g3 g4 g5 g6;have fx:=X2.1;obtain⟨⟨r0,r1,r2,r3,r4,r5,r6⟩,rz⟩:=id R2;simp only[j0,bG] at r0 r1 r2 r3 r4 r5 r6;have fz:=F2.1;clear hown;go_wp2;refine bodyPost_ret (v:=Tu #[Ag #[Bb g.n,Bb g.sp.n,I Y g.sp.lo,I Y g.sp.hi,Bb g.t,Bb g.f,U vs g.s.length vc],Bb false,I Y 0]) (by simp[results,Tryz.results164,go_sem,r0,r1,r2,r3,r4,r5,r6,g0,g1,g2,g3,g4,g5,g6]) rfl ⟨_,rfl,?_,?_⟩
 ·exact fK (fM (mI O2 aa) aa) aa
 ·exact bp (B2.setCell (by show w.heap.size<=w.heap.size+1;omega) _) aa
def KV (w:World)(g:Gs)(ss:oA)(gc:Nat)(h:Gs)(st:oA)(hc:Nat)(w':World):Prop:=
 (w'.cell? ⟨w.heap.size+1,0,nO⟩=sO (Bb g.n)/\w'.cell? ⟨w.heap.size+1,1,nO⟩=sO (Bb g.sp.n)/\w'.cell? ⟨w.heap.size+1,2,nO⟩=sO (I Y g.sp.lo)/\w'.cell? ⟨w.heap.size+1,3,nO⟩=sO (I Y g.sp.hi)/\w'.cell? ⟨w.heap.size+1,4,nO⟩=sO (Bb g.t)/\w'.cell? ⟨w.heap.size+1,5,nO⟩=sO (Bb g.f)/\w'.cell? ⟨w.heap.size+1,6,nO⟩=sO (U ss g.s.length gc))/\
 (w'.cell? ⟨w.heap.size+1+1,0,nO⟩=sO (Bb h.n)/\w'.cell? ⟨w.heap.size+1+1,1,nO⟩=sO (Bb h.sp.n)/\w'.cell? ⟨w.heap.size+1+1,2,nO⟩=sO (I Y h.sp.lo)/\w'.cell? ⟨w.heap.size+1+1,3,nO⟩=sO (I Y h.sp.hi)/\w'.cell? ⟨w.heap.size+1+1,4,nO⟩=sO (Bb h.t)/\w'.cell? ⟨w.heap.size+1+1,5,nO⟩=sO (Bb h.f)/\w'.cell? ⟨w.heap.size+1+1,6,nO⟩=sO (U st h.s.length hc))

theorem vT {p:Prop}(h:p:=by
 refine wpAnyH_ready (rs:=[11]) ag ah ?_;refine AllReadyH.cons rfl (λK hK=> ?_) AllReadyH.nil;go_simp;refine(HW.out _ 2 _ L5).mono ?_;rintro e w6 ⟨rfl,hb6⟩;have G6:=G5.call hb6;have H6:=H5.call hb6;have R6:=R5.call hb6;have F6:=F5.call hb6;have L6:=L5.call hb6;have B6:=B5.trans (hb6.mono B5.size);refine hK.out _ _ (KS _ G6 H6) (λhHeld6=> ?_);clear hK K hb6;refine sm ?_;obtain⟨⟨r0,r1,r2,r3,r4,r5,r6⟩,rz⟩:=id R6;simp only[Nat.zero_add,bG] at r0 r1 r2 r3 r4 r5 r6;have fz:=F6.1;refine wpAnyH_ready (rs:=[12]) ag ah ?_;refine AllReadyH.cons rfl (λK hK=> ?_) AllReadyH.nil;go_simp;refine hK.out _ _ (KS _ (G6.put7 aa) (H6.put7 aa)) (λhHeldz=> ?_);clear hK K;refine sm ?_;refine vH 13 ?_ ?_;refine vH 14 ?_ ?_;refine wpAnyH_done ag ?_ _;go_wp2;refine bodyPost_ret (v:=.tuple #[gv ⟨false,⟨true,0,0⟩,y,n,[]⟩ none 0,.bool wr,.int .i64 0]) rE rfl ⟨rfl,?_⟩;exact bp B6 aa):p:=h
theorem uD {p:Prop}(h:p:=by
 refine wpAnyH_ready (rs:=[7]) ag ah ?_;refine AllReadyH.cons rfl (λK hK=> ?_) AllReadyH.nil;go_simp;refine(kL _ _ _).mono ?_;rintro e w5 ⟨rfl,hb5⟩;have G5:=G4.call hb5;have H5:=H4.call hb5;have R5:=R4.call hb5;have F5:=F4.call hb5;have L5:=L4.call hb5;have B5:=B4.trans (hb5.mono B4.size);refine hK.out _ _ (KS _ G5 H5) (λhHeld5=> ?_);clear hK K hb5;refine sm ?_;exact vT):p:=h
theorem O7 (V F:Int)(s:oA)(c:List Ins)(cap:Nat)(g:Gs)(ss:oA)(gc:Nat)(h:Gs)(st:oA)(hc:Nat)(w:World)
  (hcd:CodeAt w s c)(hs:IntsAt w ss g.s)(h1:g.s.length<=gc)(h2:gc<=maxLen)(ht:IntsAt w st h.s)(h3:h.s.length<=hc)(h4:hc<=maxLen)(hck:aZ V F c [g,h]=0):
  Calls pG 164 #[pv V F s c cap,I Y 8,gv g ss gc,gv h st hc] w λe w'=>e=Rt (Tu #[gv ⟨false,⟨true,0,0⟩,!(g.sp.n||h.sp.n)&&decide (g.sp.lo < h.sp.hi),!(g.sp.n||h.sp.n)&&decide (h.sp.lo<=g.sp.hi),[]⟩ nO 0,Bb ([g,h].any aO&& ![g,h].any ap),I Y 0])/\bl w w':=by
 obtain⟨P0,G0,H0,R0,F0⟩:=eP w V F s c cap g ss gc h st hc;have B0:=dg w V F s c cap g ss gc h st hc;have C0:CodeAt (bQ w V F s c cap g ss gc h st hc) s c:=hcd.below B0 (lR _);have I0:IntsAt (bQ w V F s c cap g ss gc h st hc) ss g.s:=hs.below B0 (lR _);have J0:IntsAt (bQ w V F s c cap g ss gc h st hc) st h.s:=ht.below B0 (lR _);have L0:=GsAt.new2 (bQ w V F s c cap g ss gc h st hc) g ss gc h st hc I0 h1 h2 J0 h3 h4;simp only[zA] at L0;have HC:=ae (cq V F s c cap (sO ⟨w.heap.size+1+1+1+1,0,nO⟩) [g,h] 2 _ (C0.alloc _) L0 ah);rw[hck] at HC;have HL:=ae (λw=>K7 g.sp h.sp w);generalize (!(g.sp.n||h.sp.n)&&decide (g.sp.lo < h.sp.hi))=y at HL |-;generalize (!(g.sp.n||h.sp.n)&&decide (h.sp.lo<=g.sp.hi))=n at HL |-;have HW:=ae (λls lc w hL=>sL ls [g,h] lc w ah hL);generalize ([g,h].any aO&& ![g,h].any ap)=wr at HW |-;go_enter Tryz.func164,Tryz.ntmps164;go_wp2_with (go_at_call 142;fail);refine HC.out.mono ?_;rintro e w1 ⟨rfl,hb1⟩;have G1:=(G0.alloc _).call hb1;have H1:=(H0.alloc _).call hb1;have R1:=(R0.alloc _).call hb1;have I1:=(I0.alloc _).call hb1;have J1:=(J0.alloc _).call hb1;have F1:Fr7 w1 (w.heap.size+1+1+1):=(F0.alloc _).call hb1;have B1:bl w w1:=(B0.alloc B0.size _).trans (hb1.mono an);clear hb1 G0 H0 R0 I0 J0 F0 B0 C0 P0 L0 hcd hs ht HC;clear I1 J1;obtain⟨⟨g0,g1,g2,g3,g4,g5,g6⟩,gz⟩:=id G1;obtain⟨⟨k0,k1,k2,k3,k4,k5,k6⟩,kz⟩:=id H1;simp only[j0] at g0 g1 g2 g3 g4 g5 g6 k0 k1 k2 k3 k4 k5 k6;go_wp2;have KS:∀wx,GuAt wx (w.heap.size+1) 0 g ss gc->GuAt wx (w.heap.size+1+1) 0 h st hc->KV w g ss gc h st hc wx:=λwx a b=>⟨by simpa using a.1,by simpa using b.1⟩;have G2:=G1.drew;have H2:=H1.drew;have R2:=R1.drew;have F2:=F1.drew;have B2:=B1.drew;refine wp_region_held_drew (S:=KV w g ss gc h st hc) ag (KS _ G2 H2) (λhHeld=> ?_);unfold KV at hHeld KS |-;clear G1 H1 R1 F1 B1 g0 g1 g2 g3 g4 g5 g6 gz k0 k1 k2 k3 k4 k5 k6 kz;generalize w1.drew=w2 at *;refine vH 0 ?_ ?_;refine vH 1 ?_ ?_;refine vH 2 ?_ ?_;refine vH 3 ?_ ?_;refine vH 8 ?_ ?_;refine vH 9 ?_ ?_;refine wpAnyH_ready (rs:=[4,10]) ag ah ?_;refine AllReadyH.cons rfl (λK hK=> ?_) (AllReadyH.cons rfl (λK hK=> ?_) AllReadyH.nil)
 ·go_simp
  refine(HL.out _).mono ?_;rintro e w3 ⟨rfl,hb3⟩;have G3:=G2.call hb3;have H3:=H2.call hb3;have R3:=R2.call hb3;have F3:=F2.call hb3;have B3:=B2.trans (hb3.mono B2.size);refine hK.out _ _ (KS _ G3 H3) (λhHeld3=> ?_);clear hK K hb3;refine sm ?_;refine vH 5 ?_ ?_;refine vH 6 ?_ ?_;refine wpAnyH_ready (rs:=[7,10]) ag ah ?_;refine AllReadyH.cons rfl (λK hK=> ?_) (AllReadyH.cons rfl (λK hK=> ?_) AllReadyH.nil)
  ·go_simp
   refine(kL _ _ _).mono ?_;rintro e w4 ⟨rfl,hb4⟩;have G4:=G3.call hb4;have H4:=H3.call hb4;have R4:=R3.call hb4;have F4:=F3.call hb4;have B4:=B3.trans (hb4.mono B3.size);refine hK.out _ _ (KS _ G4 H4) (λhHeld4=> ?_);clear hK K hb4;refine sm ?_;refine wpAnyH_ready (rs:=[10]) ag ah ?_;refine AllReadyH.cons rfl (λK hK=> ?_) AllReadyH.nil;go_simp;have G5:=G4.alloc (Cc #[Bb g.n,Bb g.sp.n,I Y g.sp.lo,I Y g.sp.hi,Bb g.t,Bb g.f,U ss g.s.length gc,Bb h.n,Bb h.sp.n,I Y h.sp.lo,I Y h.sp.hi,Bb h.t,Bb h.f,U st h.s.length hc] 91);have H5:=H4.alloc (Cc #[Bb g.n,Bb g.sp.n,I Y g.sp.lo,I Y g.sp.hi,Bb g.t,Bb g.f,U ss g.s.length gc,Bb h.n,Bb h.sp.n,I Y h.sp.lo,I Y h.sp.hi,Bb h.t,Bb h.f,U st h.s.length hc] 91);have R5:=R4.alloc (Cc #[Bb g.n,Bb g.sp.n,I Y g.sp.lo,I Y g.sp.hi,Bb g.t,Bb g.f,U ss g.s.length gc,Bb h.n,Bb h.sp.n,I Y h.sp.lo,I Y h.sp.hi,Bb h.t,Bb h.f,U st h.s.length hc] 91);have F5:=F4.alloc (Cc #[Bb g.n,Bb g.sp.n,I Y g.sp.lo,I Y g.sp.hi,Bb g.t,Bb g.f,U ss g.s.length gc,Bb h.n,Bb h.sp.n,I Y h.sp.lo,I Y h.sp.hi,Bb h.t,Bb h.f,U st h.s.length hc] 91);have B5:=B4.alloc B4.size (Cc #[Bb g.n,Bb g.sp.n,I Y g.sp.lo,I Y g.sp.hi,Bb g.t,Bb g.f,U ss g.s.length gc,Bb h.n,Bb h.sp.n,I Y h.sp.lo,I Y h.sp.hi,Bb h.t,Bb h.f,U st h.s.length hc] 91);have L5:=GhAt.new2 w4 g ss gc h st hc;refine hK.out _ _ (KS _ G5 H5) (λhHeld5=> ?_);clear hK K;refine sm ?_;unfold oS at L5;generalize w4.alloc (Cc #[Bb g.n,Bb g.sp.n,I Y g.sp.lo,I Y g.sp.hi,Bb g.t,Bb g.f,U ss g.s.length gc,Bb h.n,Bb h.sp.n,I Y h.sp.lo,I Y h.sp.hi,Bb h.t,Bb h.f,U st h.s.length hc] 91)=w5 at *;generalize w4.heap.size=sb at *;exact vT
  ·go_simp
   have G4:=G3.alloc (Cc #[Bb g.n,Bb g.sp.n,I Y g.sp.lo,I Y g.sp.hi,Bb g.t,Bb g.f,U ss g.s.length gc,Bb h.n,Bb h.sp.n,I Y h.sp.lo,I Y h.sp.hi,Bb h.t,Bb h.f,U st h.s.length hc] 91);have H4:=H3.alloc (Cc #[Bb g.n,Bb g.sp.n,I Y g.sp.lo,I Y g.sp.hi,Bb g.t,Bb g.f,U ss g.s.length gc,Bb h.n,Bb h.sp.n,I Y h.sp.lo,I Y h.sp.hi,Bb h.t,Bb h.f,U st h.s.length hc] 91);have R4:=R3.alloc (Cc #[Bb g.n,Bb g.sp.n,I Y g.sp.lo,I Y g.sp.hi,Bb g.t,Bb g.f,U ss g.s.length gc,Bb h.n,Bb h.sp.n,I Y h.sp.lo,I Y h.sp.hi,Bb h.t,Bb h.f,U st h.s.length hc] 91);have F4:=F3.alloc (Cc #[Bb g.n,Bb g.sp.n,I Y g.sp.lo,I Y g.sp.hi,Bb g.t,Bb g.f,U ss g.s.length gc,Bb h.n,Bb h.sp.n,I Y h.sp.lo,I Y h.sp.hi,Bb h.t,Bb h.f,U st h.s.length hc] 91);have B4:=B3.alloc B3.size (Cc #[Bb g.n,Bb g.sp.n,I Y g.sp.lo,I Y g.sp.hi,Bb g.t,Bb g.f,U ss g.s.length gc,Bb h.n,Bb h.sp.n,I Y h.sp.lo,I Y h.sp.hi,Bb h.t,Bb h.f,U st h.s.length hc] 91);have L4:=GhAt.new2 w3 g ss gc h st hc;refine hK.out _ _ (KS _ G4 H4) (λhHeld4=> ?_);clear hK K;refine sm ?_;unfold oS at L4;generalize w3.alloc (Cc #[Bb g.n,Bb g.sp.n,I Y g.sp.lo,I Y g.sp.hi,Bb g.t,Bb g.f,U ss g.s.length gc,Bb h.n,Bb h.sp.n,I Y h.sp.lo,I Y h.sp.hi,Bb h.t,Bb h.f,U st h.s.length hc] 91)=w4 at *;generalize w3.heap.size=sb at *;exact uD
 ·go_simp
  have G3:=G2.alloc (Cc #[Bb g.n,Bb g.sp.n,I Y g.sp.lo,I Y g.sp.hi,Bb g.t,Bb g.f,U ss g.s.length gc,Bb h.n,Bb h.sp.n,I Y h.sp.lo,I Y h.sp.hi,Bb h.t,Bb h.f,U st h.s.length hc] 91);have H3:=H2.alloc (Cc #[Bb g.n,Bb g.sp.n,I Y g.sp.lo,I Y g.sp.hi,Bb g.t,Bb g.f,U ss g.s.length gc,Bb h.n,Bb h.sp.n,I Y h.sp.lo,I Y h.sp.hi,Bb h.t,Bb h.f,U st h.s.length hc] 91);have R3:=R2.alloc (Cc #[Bb g.n,Bb g.sp.n,I Y g.sp.lo,I Y g.sp.hi,Bb g.t,Bb g.f,U ss g.s.length gc,Bb h.n,Bb h.sp.n,I Y h.sp.lo,I Y h.sp.hi,Bb h.t,Bb h.f,U st h.s.length hc] 91);have F3:=F2.alloc (Cc #[Bb g.n,Bb g.sp.n,I Y g.sp.lo,I Y g.sp.hi,Bb g.t,Bb g.f,U ss g.s.length gc,Bb h.n,Bb h.sp.n,I Y h.sp.lo,I Y h.sp.hi,Bb h.t,Bb h.f,U st h.s.length hc] 91);have B3:=B2.alloc B2.size (Cc #[Bb g.n,Bb g.sp.n,I Y g.sp.lo,I Y g.sp.hi,Bb g.t,Bb g.f,U ss g.s.length gc,Bb h.n,Bb h.sp.n,I Y h.sp.lo,I Y h.sp.hi,Bb h.t,Bb h.f,U st h.s.length hc] 91);have L3:=GhAt.new2 w2 g ss gc h st hc;refine hK.out _ _ (KS _ G3 H3) (λhHeld3=> ?_);clear hK K;refine sm ?_;unfold oS at L3;generalize w2.alloc (Cc #[Bb g.n,Bb g.sp.n,I Y g.sp.lo,I Y g.sp.hi,Bb g.t,Bb g.f,U ss g.s.length gc,Bb h.n,Bb h.sp.n,I Y h.sp.lo,I Y h.sp.hi,Bb h.t,Bb h.f,U st h.s.length hc] 91)=w3 at *;generalize w2.heap.size=sb at *;refine wpAnyH_ready (rs:=[4]) ag ah ?_;refine AllReadyH.cons rfl (λK hK=> ?_) AllReadyH.nil;go_simp;refine(HL.out _).mono ?_;rintro e w4 ⟨rfl,hb4⟩;have G4:=G3.call hb4;have H4:=H3.call hb4;have R4:=R3.call hb4;have F4:=F3.call hb4;have L4:=L3.call hb4;have B4:=B3.trans (hb4.mono B3.size);refine hK.out _ _ (KS _ G4 H4) (λhHeld4=> ?_);clear hK K hb4;refine sm ?_;refine vH 5 ?_ ?_;refine vH 6 ?_ ?_;exact uD
end
end Go.Proofs.YtmapdpcfanecdabGreatDoor
