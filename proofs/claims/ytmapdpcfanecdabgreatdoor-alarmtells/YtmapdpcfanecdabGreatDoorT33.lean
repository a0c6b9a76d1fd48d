/- For every program that the law AlarmTells is handed, it returns true and leaves it as it was: Alarms and Sure of package alarm answer just what the document's own words ask, errors too. No condition but the row's own: the listed package-level variables hold what the program's text lays. -/
import Derived.Test.YtmapdpcfanecdabGreatDoorT32
import Derived.ChangeMaps5
open Bool renaming eq_false_or_eq_true→j1
open Go.Ending renaming returned→Rt
open Go.IntKind renaming i64→Y
open Go.Obj renaming cells→Cc
open Go.Proofs.Tryz renaming prog→pG
open Go.RowKit.Below renaming refl→bR
open Go.Value renaming agg→Ag,bool→Bb,bool→j0,int→I,slice→U,tuple→Tu
open Go.World renaming grownBy_alloc→j2,size_alloc→zA
open Nat renaming le_refl→lR
open Option renaming none→nO,some→j3,some→sO
set_option linter.unusedSimpArgs false
set_option linter.unusedVariables false
set_option maxHeartbeats 80000000
set_option maxRecDepth 100000
namespace Go.Proofs.YtmapdpcfanecdabGreatDoor
section
open Go.RowKit
attribute [local go_sem ↓] Go.wp_at_zero Go.wp_at_succ
theorem Km:AN:=by
 intro V F s c cap w h0;obtain⟨⟨hV1,hV8⟩,⟨hF0,hF3⟩,h60⟩:=bI h0;obtain⟨v,rfl⟩:=Int.eq_ofNat_of_zero_le (show 0<=V by omega);obtain⟨f,rfl⟩:=Int.eq_ofNat_of_zero_le hF0;refine(Bi v f s c cap w aa aa h60).mono ?_;rintro e w' ⟨⟨vs,vc,fs,fc,h1,h2,h3⟩,hb⟩;exact⟨⟨vs,vc,fs,fc,h1,h2.at,h3⟩,hb⟩
theorem LD:Do:=λT V F s c cap at_ x vs vc fs fc w hc hx h0 hck a0 a1 h1 h2=>vS T V F s c cap at_ x vs vc fs fc w hc hx h0 hck a0 a1 h1 h2
theorem Ma:Da:=λS V F c wide x y vs1 vc1 fs1 fc1 vs2 vc2 fs2 fc2 w hx hy p1 p2 q1 q2 h0 h1 h2=>by
 cases wide with
 |false=>
  have h:=lk false _ (rR h0) x y vs1 vc1 fs1 fc1 vs2 vc2 fs2 fc2 w S hx hy p1 p2 q1 q2 h0 h1 h2;rw[(iO h0 h1 h2).1] at h;exact h
 |true=>
  have h:=lk true _ (Ki h0) x y vs1 vc1 fs1 fc1 vs2 vc2 fs2 fc2 w S hx hy p1 p2 q1 q2 h0 h1 h2;rw[(iO h0 h1 h2).2] at h;exact h
theorem BL (V F:Int)(s:oA)(c:List Ins)(cap:Nat)(w:World)(hc:CodeAt w s c)(h0:aw V F c=0):
  Calls pG 31 #[pv V F s c cap] w λe w'=>Ap V F c e w'/\bl w w':=DN Km LD Ma V F s c cap w hc h0
def Mm (A:List (Int×Int))(e:Ending)(w':World):Prop:=∃(a:oA) (ac:Nat),e=Rt (U a A.length ac)/\AlsAt w' a A
theorem y6 {B:Nat}{W:World}{v:Value}{A:List (Int×Int)}(h:W.ownsRow B 62 2 v A.length (alC A)):∃a cp,v=U a A.length cp:=by
 rcases h.2 with⟨h,h2⟩|⟨g,cp,_,h,_⟩
 ·exact⟨nO,0,by rw[h,h2]⟩
 ·exact⟨_,_,h⟩
theorem y9 {B:Nat}{w2 W W4:World}{v v':Value}{A:List (Int×Int)}{k kind:Int}{O:Obj}(hO:W.ownsRow B 62 2 v A.length (alC A))(BR:Below B w2 W)(hB:B<=W.heap.size)(hown:W4.ownsRow B 62 2 v' (A.length+1) (alC A++[I Y k,I Y kind]))(hgrow:(W.alloc O).grownBy W4 v.ownBlock):
  W4.ownsRow B 62 2 v' (bY A k kind true).length (alC (bY A k kind true))/\Below B w2 W4:=by
 have hz:(W.alloc O).heap.size=W.heap.size+1:=zA _ _;have h:W4.ownsRow B 62 2 v' (A++[(k,kind)]).length (alC (A++[(k,kind)])):=by
  rw[<-AE,List.length_append];exact hown
 exact⟨h,(BR.alloc hB O).grown hgrow aa (λq hq=>(hO.lt q hq).1)⟩
theorem tI {p:Prop}(h:p:=by
 intro v' w9 hown hgrow hat;have HN:=ae (y9 HO.out BR zB hown hgrow);clear hown hgrow hat S4;go_wp2_with fail;go_meet;obtain⟨a9,c9,e9⟩:=y6 HN.out.1;rw[HE.out];exact⟨a9,c9,e9,by show _;rw[<-e9];exact HN.out.1,HN.out.2⟩):p:=h
theorem AQ (V F:Int)(s:oA)(c:List Ins)(cap m:Nat)(w:World)(hc:CodeAt w s c)(h0:aw V F c=0)(hs:SolvedAt V F c m):
  Calls pG 23 #[pv V F s c cap] w λe w'=>Mm (aO c (aI V F c m) c.length) e w'/\bl w w':=by
 obtain⟨ti,hi,hz0,hz1,hz2⟩:=info_parts Tryz.info_alarm;have h60:=(bI h0).2.2;have B0:Below w.heap.size w (w.alloc (Cc #[I Y V,I Y F,U s c.length cap] 24)):=ai;have P0:=PrAt.new w V F s c cap;have HXO:=ae (dE h0 m);have HC:=ae hc;have H0:=ae h0;have HSO:Hid (∀wx,bl w wx->Calls pG 31 #[pv V F s c cap] wx λe w'=>(∃pb pc:Nat,e=Rt (Tu #[U (sO ⟨pb,0,nO⟩) (c.length+1) pc,I Y ((m+1:Nat):Int)])/\XsAt w' (sO ⟨pb,0,nO⟩) (aI V F c m))/\bl wx w'):=λwx hb=>by
  refine(BL V F s c cap wx (hc.below hb (lR _)) h0).mono ?_;rintro e w' ⟨⟨m',pb,pc,hs',_,rfl,hx'⟩,hb'⟩;obtain rfl:=hs'.one hs;exact⟨⟨pb,pc,rfl,hx'⟩,hb'⟩
 generalize aI V F c m=L at *;clear hc h0 hs;go_enter Tryz.func23,Tryz.ntmps23;go_upto_region 1 with fail
 generalize w.alloc (Cc #[I Y V,I Y F,U s c.length cap] 24)=w0 at *;obtain⟨⟨p0,p1,p2⟩,pz⟩:=id P0;go_wp2_with (go_at_call 31;fail);refine(HSO.out w0 B0).mono ?_;rintro e w2 ⟨⟨pb,pc,rfl,hX⟩,hb2⟩;have HX:=ae hX;have B2:=B0.trans (hb2.mono B0.size);have P2:=P0.call hb2;clear hX HSO p0 p1 p2 pz P0 B0 hb2;have HB2:=ae B2;clear B2;have O0:w2.ownsRow w2.heap.size 62 2 (U nO (aO c L 0).length 0) (aO c L 0).length (alC (aO c L 0)):=World.ownsRow_nil _ _ _ _;go_wp2;go_loopw [5,6] (λv i wr=>∃(k:Nat) (va:oA) (vcp:Nat),k<=c.length/\i=I Y k/\v=U va (aO c L k).length vcp/\Hid (wr.ownsRow w2.heap.size 62 2 (U va (aO c L k).length vcp) (aO c L k).length (alC (aO c L k)))/\bl w2 wr) (λ_ i _=>c.length - (intOf i).toNat)
 case atStart=>exact⟨0,nO,0,Nat.zero_le _,rfl,rfl,O0,bR _ _⟩
 case round=>
  clear O0;obtain⟨k,va,vcp,hk,rfl,rfl,HO,BR⟩:=hrel;have PR:=P2.call BR;obtain⟨⟨p0,p1,p2⟩,pz⟩:=id PR;by_cases hlt:k < c.length;rotate_left
  ·have n1:¬(k:Int) < (c.length:Int):=by omega
   have ek:k=c.length:=aa;subst ek;have HA:=ae (iW HO.out);clear HO;go_wp2;go_ret;exact⟨⟨va,vcp,rfl,HA.out⟩,HB2.out.trans (BR.mono HB2.out.size)⟩
  have hxl:k < L.length:=by rw[HXO.out.len];omega
  obtain⟨_,_,els,zpb,vs,vc,fs,fc,⟨q0,q1,q2⟩,hPx,hvx,hfx⟩:=HX.out.below BR (lR _) k hxl;cases els;simp only[Nat.zero_add] at q0 q1 q2;obtain⟨x,ex⟩:∃x,x=L[k]:=⟨_,rfl⟩;have hckx:aK V F c x=0:=Dq;have exa:bm L (k:Int)=x:=by rw[fU hxl,ex]
  rw[<-ex] at q0 q1 q2 hPx hvx hfx;obtain⟨⟨E,f1,f2⟩,er⟩:∃r,r=aA (bK c (k:Int)) (k:Int) x:=⟨_,rfl⟩;have HAN:Hid (aO c L (k+1)=bY (bY (bY (aO c L k) (k:Int) 1 f1) (k:Int) 2 f2) (k:Int) 3 x.none):=by
   show _=_;rw[gK];unfold kP;rw[exa,<-er]
  have HST:Hid (∀wx,bl wr wx->Calls pG 59 #[pv V F s c cap,I Y (k:Int),xv x vs vc fs fc] wx λe w'=>(∃es ec,e=Rt (Tu #[U es E.length ec,Bb f1,Bb f2]))/\bl wx w'):=λwx hb=>by
   have b:=HB2.out.trans (BR.mono HB2.out.size);have h:=vS (λ_=>True) V F s c cap (k:Int) x vs vc fs fc wx (HC.out.below (b.trans (hb.mono b.size)) (lR _)) (λw2 h2 hz=>(hPx.call hb).same (λb hb=>h2 b trivial hb) hz) H0.out hckx aa aa hvx hfx;rw[<-er] at h;refine h.mono ?_;rintro e w' ⟨⟨es,ec,rfl,-⟩,hb'⟩;exact⟨⟨es,ec,rfl⟩,hb'⟩
  have HKZ:Hid (∀wx,bl wr wx->(wx.cell? ⟨w.heap.size,0,nO⟩=sO (I Y V)/\wx.cell? ⟨w.heap.size,1,nO⟩=sO (I Y F)/\wx.cell? ⟨w.heap.size,2,nO⟩=sO (U s c.length cap))/\(wx.cell? ⟨pb,k * 3,nO⟩=sO (Bb x.none)/\wx.cell? ⟨pb,k * 3+1,nO⟩=sO (U vs x.vars.length vc)/\wx.cell? ⟨pb,k * 3+2,nO⟩=sO (U fs x.flds.length fc))):=λwx hb=>by
   have q:=λj=>hb.cell (p:=⟨pb,j,nO⟩) (by simp only;exact zpb);exact⟨(PR.call hb).1,(q _).trans q0,(q _).trans q1,(q _).trans q2⟩
  have HNN:Hid (∀wx,bl w2 wx->wx.cell? ⟨pb,k * 3,nO⟩=sO (Bb x.none)):=λwx hb=>by
   obtain⟨_,_,els,_,vs',vc',fs',fc',⟨h0,_⟩,_⟩:=HX.out.below hb (lR _) k hxl;cases els;rw[Nat.zero_add,<-ex] at h0;exact h0
  have hlA:(aO c L k).length<=200:=by have:=fM (c:=c) (L:=L) (k:=k);omega
  have B34:bl wr wr.drew:=(bR _ _).drew;have n0:(0:Int)<=(k:Int):=aa;have n1:(k:Int) < (c.length:Int):=aa;have n2:(k:Int) < ((c.length+1:Nat):Int):=aa;have n3:(k:Int) < (c.length:Int)+1:=aa;clear er exa hckx hPx hvx hfx q0 q1 q2 ex;obtain⟨A,eA⟩:∃A,A=aO c L k:=⟨_,rfl⟩;rw[<-eA] at HO HAN hlA |-;clear eA;go_upto_region 6 with fail
  refine aD (S:=(λwx=>(wx.cell? ⟨w.heap.size,0,nO⟩=sO (I Y V)/\wx.cell? ⟨w.heap.size,1,nO⟩=sO (I Y F)/\wx.cell? ⟨w.heap.size,2,nO⟩=sO (U s c.length cap))/\(wx.cell? ⟨pb,k * 3,nO⟩=sO (Bb x.none)/\wx.cell? ⟨pb,k * 3+1,nO⟩=sO (U vs x.vars.length vc)/\wx.cell? ⟨pb,k * 3+2,nO⟩=sO (U fs x.flds.length fc)))) [] ag (HKZ.out _ B34) (λhHeld=> ?_);generalize wr.drew=w4 at *;refine vZ 0 ?_ ?_;refine vZ 1 ?_ ?_;refine vZ 2 ?_ ?_;refine vZ 3 ?_ ?_;refine vZ 4 ?_ ?_;refine vZ 5 ?_ ?_;refine aB (i:=6) rfl ag (λK hK=> ?_);go_simp;go_at_call 59;refine(HST.out w4 B34).mono ?_;rintro e w5 ⟨⟨es,ec,rfl⟩,hb5⟩;have B5:=B34.trans (hb5.mono B34.size);clear hb5;go_wp2_with fail;refine hK.out _ _ (HKZ.out _ B5) (λhHeld=> ?_);clear hK K;refine sm ?_;refine vZ 7 ?_ ?_;refine vZ 8 ?_ ?_;refine vZ 9 ?_ ?_;refine vZ 10 ?_ ?_;refine vZ 11 ?_ ?_;refine vZ 12 ?_ ?_;refine vZ 13 ?_ ?_;refine aC ag ?_ _;have HO5:Hid (w5.ownsRow w2.heap.size 62 2 (U va A.length vcp) A.length (alC A)):=ci HO.out (λk hk=>B5.block k (HO.out.lt k hk).2);have BR5:=BR.trans (B5.mono BR.size);clear hHeld HKZ HST B34 B5 BR HO PR p0 p1 p2 pz;have HO:=HO5;have BR:=BR5;clear HO5 BR5;go_upto_if 33 with fail
  generalize w5=wq at *;clear w5;go_cut [5] (λt5 wc=>∃(ua:oA) (ucp:Nat),t5=U ua (bY A (k:Int) 1 f1).length ucp/\Hid (wc.ownsRow w2.heap.size 62 2 (U ua (bY A (k:Int) 1 f1).length ucp) (bY A (k:Int) 1 f1).length (alC (bY A (k:Int) 1 f1)))/\bl w2 wc)
  case first=>
   rcases j1 f1 with e|e
   ·refine wp_cond_split (congrArg j0 e) (λ_=> ?_) (λh=>aX)
    have HE:=ae e;clear e;have S4:=HO.out.kept (j2 wq (Cc #[I Y (k:Int),I Y 1] 62) nO) (by cases e:(Value.slice va A.length vcp).ownBlock with|none=>exact .inl rfl|some q=>exact .inr ah);have zB:=BR.size;go_wp2_with (at_builtin;refine bd _ rfl _ _ 55 rfl w2.heap.size 62 ti (Ag #[I Y 0,I Y 0]) 2 16 Tryz.underlying55 hi hz0 hz1 hz2 rfl aj _ _ _ rfl S4 (sO ⟨wq.heap.size,0,nO⟩) 1 1 [I Y (k:Int),I Y 1] rfl rfl (λh=>aX) ?q12 ?q13 ?q14 ?q15 ?q16 ?_);(try case q12=>exact gW wq 62 [I Y (k:Int),I Y 1]);(try case q13=>first|exact⟨rfl,rfl⟩|(intro u hu;simp at hu;rcases hu with rfl|rfl<;>rfl));(try case q14=>first|(unfold maxLen;omega)|omega);(try case q15=>omega);(try case q16=>first|(rw[zA];omega)|omega);exact tI
   ·refine wp_cond_split (congrArg j0 e) (λh=>aX) (λ_=> ?_)
    have HE:=ae e;clear e;go_wp2_with fail;go_meet;rw[HE.out];exact⟨_,_,rfl,HO.out,BR⟩
  clear HO BR;obtain⟨va',vcp',rfl,HO',BR'⟩:=hcut;obtain⟨A1,eA1⟩:∃q,q=bY A (k:Int) 1 f1:=⟨_,rfl⟩;rw[<-eA1] at HO' |-;have HA1:=ae eA1;have hlA1:A1.length<=A.length+1:=by rw[eA1];exact gB
  clear eA1;have HO:=HO';have BR:=BR';clear HO' BR';generalize va'=va at *;generalize vcp'=vcp at *;clear va' vcp';go_upto_if 39 with fail
  generalize wc=wq at *;clear wc;go_cut [5] (λt5 wc=>∃(ua:oA) (ucp:Nat),t5=U ua (bY A1 (k:Int) 2 f2).length ucp/\Hid (wc.ownsRow w2.heap.size 62 2 (U ua (bY A1 (k:Int) 2 f2).length ucp) (bY A1 (k:Int) 2 f2).length (alC (bY A1 (k:Int) 2 f2)))/\bl w2 wc)
  case first=>
   rcases j1 f2 with e|e
   ·refine wp_cond_split (congrArg j0 e) (λ_=> ?_) (λh=>aX)
    have HE:=ae e;clear e;have S4:=HO.out.kept (j2 wq (Cc #[I Y (k:Int),I Y 2] 62) nO) (by cases e:(Value.slice va A1.length vcp).ownBlock with|none=>exact .inl rfl|some q=>exact .inr ah);have zB:=BR.size;go_wp2_with (at_builtin;refine bd _ rfl _ _ 55 rfl w2.heap.size 62 ti (Ag #[I Y 0,I Y 0]) 2 16 Tryz.underlying55 hi hz0 hz1 hz2 rfl aj _ _ _ rfl S4 (sO ⟨wq.heap.size,0,nO⟩) 1 1 [I Y (k:Int),I Y 2] rfl rfl (λh=>aX) ?q22 ?q23 ?q24 ?q25 ?q26 ?_);(try case q22=>exact gW wq 62 [I Y (k:Int),I Y 2]);(try case q23=>first|exact⟨rfl,rfl⟩|(intro u hu;simp at hu;rcases hu with rfl|rfl<;>rfl));(try case q24=>first|(unfold maxLen;omega)|omega);(try case q25=>omega);(try case q26=>first|(rw[zA];omega)|omega);exact tI
   ·refine wp_cond_split (congrArg j0 e) (λh=>aX) (λ_=> ?_)
    have HE:=ae e;clear e;go_wp2_with fail;go_meet;rw[HE.out];exact⟨_,_,rfl,HO.out,BR⟩
  clear HO BR;obtain⟨va',vcp',rfl,HO',BR'⟩:=hcut;obtain⟨A2,eA2⟩:∃q,q=bY A1 (k:Int) 2 f2:=⟨_,rfl⟩;rw[<-eA2] at HO' |-;have HA2:=ae eA2;have hlA2:A2.length<=A1.length+1:=by rw[eA2];exact gB
  clear eA2;have HO:=HO';have BR:=BR';clear HO' BR';generalize va'=va at *;generalize vcp'=vcp at *;clear va' vcp';have q0:=HNN.out wc BR;go_upto_if 49 with fail
  generalize wc=wq at *;clear wc;have HFN:Hid (aO c L (k+1)=bY A2 (k:Int) 3 x.none):=by show _=_;rw[HAN.out,HA2.out,HA1.out]
  clear HAN HA1 HA2 HNN q0;rcases j1 x.none with e|e
  ·refine wp_cond_split (congrArg j0 e) (λ_=> ?_) (λh=>aX)
   rw[e] at HFN;clear e;have S4:=HO.out.kept (j2 wq (Cc #[I Y (k:Int),I Y 3] 62) nO) (by cases e:(Value.slice va A2.length vcp).ownBlock with|none=>exact .inl rfl|some q=>exact .inr ah);have zB:=BR.size;go_wp2_with (at_builtin;refine bd _ rfl _ _ 55 rfl w2.heap.size 62 ti (Ag #[I Y 0,I Y 0]) 2 16 Tryz.underlying55 hi hz0 hz1 hz2 rfl aj _ _ _ rfl S4 (sO ⟨wq.heap.size,0,nO⟩) 1 1 [I Y (k:Int),I Y 3] rfl rfl (λh=>aX) ?q32 ?q33 ?q34 ?q35 ?q36 ?_);(try case q32=>exact gW wq 62 [I Y (k:Int),I Y 3]);(try case q33=>first|exact⟨rfl,rfl⟩|(intro u hu;simp at hu;rcases hu with rfl|rfl<;>rfl));(try case q34=>first|(unfold maxLen;omega)|omega);(try case q35=>omega);(try case q36=>first|(rw[zA];omega)|omega);intro v' w9 hown hgrow hat;have HN:=ae (y9 HO.out BR zB hown hgrow);clear hown hgrow hat S4;obtain⟨a9,c9,e9⟩:=y6 HN.out.1;subst e9;rw[<-HFN.out] at HN |-;clear HFN;go_wp2;go_roundw
   case rel=>exact⟨k+1,a9,c9,aa,aJ,rfl,HN.out.1,HN.out.2⟩
   case measure=>simp[intOf];omega
  ·refine wp_cond_split (congrArg j0 e) (λh=>aX) (λ_=> ?_)
   rw[e] at HFN;clear e;have HFM:Hid (aO c L (k+1)=A2):=HFN.out;clear HFN;rw[<-HFM.out] at HO |-;clear HFM;go_wp2;go_roundw
   case rel=>exact⟨k+1,va,vcp,aa,aJ,rfl,HO.out,BR⟩
   case measure=>simp[intOf];omega
theorem AlsAt.call {W W':World}{a:oA}{A:List (Int×Int)}(h:AlsAt W a A)(hb:bl W W'):AlsAt W' a A:=h.below hb
theorem Ga (A:List (Int×Int))(k:Nat)(h:k < A.length):(!(A.take (k+1)).any λx=>x.2 !=3)=((!(A.take k).any λx=>x.2 !=3)&&A[k].2==3):=by
 rw[List.take_succ_eq_append_getElem h,List.any_append];cases e1:(A.take k).any λx=>x.2 !=3
 ·simp only[List.any_cons,List.any_nil,Bool.or_false,Bool.false_or,Bool.not_false,Bool.true_and,bne,Bool.not_not]
 ·simp only[Bool.true_or,Bool.not_true,Bool.false_and]
theorem tz {p:Prop}(h:p:=by
 refine(me w5 (HTB.out w5 B5) (HMB.out w5 B5) (HEB.out w5 B5)).mono ?_;rintro e w6 ⟨rfl,hb6⟩;have B6:=B5.trans (hb6.mono B5.size);go_wp2;go_ret;exact⟨rfl,B6⟩):p:=h
theorem uX (V F:Int)(s:oA)(c:List Ins)(cap:Nat)(w:World)(hc:CodeAt w s c)(ht:Tab w)(hm:Cap w)(hE:ErrS w):
  Calls pG 6 #[pv V F s c cap] w λe w'=>e=Rt (Bb true)/\bl w w':=by
 have B0:Below w.heap.size w (w.alloc (Cc #[I Y V,I Y F,U s c.length cap] 24)):=ai;have P0:Cells (w.alloc (Cc #[I Y V,I Y F,U s c.length cap] 24)) w.heap.size [I Y V,I Y F,U s c.length cap]:=Cells.new w _ [_,_,_];have HTB:=ae (λwx (hb:bl w wx)=>ht.below hb);have HMB:=ae (λwx (hb:bl w wx)=>hm.below hb);have HEB:=ae (λwx (hb:bl w wx)=>hE.below hb);have HCK:=ae (λwx (hb:bl w wx)=>rS V F s cap c wx (hc.below hb (lR _)));have HAL:=ae (λwx (hb:bl w wx)=>iM V F s c cap wx (hc.below hb (lR _)));have HSU:=ae (λwx (hb:bl w wx)=>At V F s c cap wx (hc.below hb (lR _)));have HAO:=ae (λ(h0:aw V F c=0) m (hs:SolvedAt V F c m) wx (hb:bl w wx)=>AQ V F s c cap m wx (hc.below hb (lR _)) h0 hs);clear hc ht hm hE;go_enter Tryz.func6,Tryz.ntmps6;go_upto_region 1 with fail
 generalize w.alloc (Cc #[I Y V,I Y F,U s c.length cap] 24)=w0 at *;have p0:=P0.1 0 _ rfl;have p1:=P0.1 1 _ rfl;have p2:=P0.1 2 _ rfl;go_wp2_with (go_at_call 20;fail);refine(HAL.out w0 B0).mono ?_;rintro e w1 ⟨hS,hb1⟩;have B1:=B0.trans (hb1.mono B0.size);have P1:=P0.call hb1;clear B0 hb1 P0 p0 p1 p2;clear HAL;rcases hS with⟨hne,rfl⟩|⟨h0,m,a,ac,hsv,rfl,hO⟩
 ·have HSE:Hid (∀wx,bl w wx->Calls pG 21 #[pv V F s c cap] wx λe w'=>e=Rt (Tu #[Bb false,I Y (aw V F c)])/\bl wx w'):=λwx hb=>by
   refine(HSU.out wx hb).mono ?_;rintro e w' ⟨⟨_,rfl⟩|⟨h,_⟩,hb'⟩
   ·exact⟨rfl,hb'⟩
   ·exact absurd h hne
  clear HSU HAO;generalize aw V F c=u at *;have f1:(u==0)=false:=by simpa using hne
  clear hne;have p0:=P1.1 0 _ rfl;have p1:=P1.1 1 _ rfl;have p2:=P1.1 2 _ rfl;go_wp2_with (go_at_call 21;fail);refine(HSE.out w1 B1).mono ?_;rintro e w2 ⟨rfl,hb2⟩;have B2:=B1.trans (hb2.mono B1.size);have P2:=P1.call hb2;clear B1 hb2 P1 p0 p1 p2;have p0:=P2.1 0 _ rfl;have p1:=P2.1 1 _ rfl;have p2:=P2.1 2 _ rfl;go_wp2_with (go_at_call 22;fail);refine(HCK.out w2 B2).mono ?_;rintro e w3 ⟨rfl,hb3⟩;have B3:=B2.trans (hb3.mono B2.size);have P3:=P2.call hb3;clear B2 hb3 P2 p0 p1 p2;clear HCK HSE;go_wp2;go_loopw [9,10] (λq i wr=>i=I Y 0/\q=Bb false/\bl w wr) (λ_ _ _=>0)
  case atStart=>exact⟨rfl,rfl,B3⟩
  case round=>
   clear B3 P3;obtain⟨rfl,rfl,B3⟩:=hrel;generalize wr=w3' at *;clear wr;have w3:=w3';generalize w3'=w4 at *;have B4:=B3;clear B3;go_wp2_with (go_at_call 24;fail);refine(me w4 (HTB.out w4 B4) (HMB.out w4 B4) (HEB.out w4 B4)).mono ?_;rintro e w5 ⟨rfl,hb5⟩;have B5:=B4.trans (hb5.mono B4.size);go_wp2;go_ret;exact⟨rfl,B5⟩
 have HSE:Hid (∀wx,bl w wx->Calls pG 21 #[pv V F s c cap] wx λe w'=>e=Rt (Tu #[Bb (!(aO c (aI V F c m) c.length).any (λx=>x.2 !=3)),I Y 0])/\bl wx w'):=λwx hb=>by
  refine(HSU.out wx hb).mono ?_;rintro e w' ⟨⟨h,_⟩|⟨_,m',hs',rfl⟩,hb'⟩
  ·exact absurd h0 h
  ·obtain rfl:=hs'.one hsv
   exact⟨rfl,hb'⟩
 have HAO1:=ae (HAO.out h0 m hsv);have HA1:=ae (iW hO);have hll:(aO c (aI V F c m) c.length).length<=180:=Cv;rw[h0] at HCK;clear hO hsv HSU HAO;generalize aO c (aI V F c m) c.length=A at *;clear h0;obtain⟨sv,esv⟩:∃b,b= !A.any (λx=>x.2 !=3):=⟨_,rfl⟩;rw[<-esv] at HSE;have HSV:=ae esv;clear esv;have p0:=P1.1 0 _ rfl;have p1:=P1.1 1 _ rfl;have p2:=P1.1 2 _ rfl;go_wp2_with (go_at_call 21;fail);refine(HSE.out w1 B1).mono ?_;rintro e w2 ⟨rfl,hb2⟩;have HA2:=ae (HA1.out.call hb2);have B2:=B1.trans (hb2.mono B1.size);have P2:=P1.call hb2;clear B1 hb2 P1 p0 p1 p2;have p0:=P2.1 0 _ rfl;have p1:=P2.1 1 _ rfl;have p2:=P2.1 2 _ rfl;go_wp2_with (go_at_call 22;fail);refine(HCK.out w2 B2).mono ?_;rintro e w3 ⟨rfl,hb3⟩;have HA3:=ae (HA2.out.call hb3);have B3:=B2.trans (hb3.mono B2.size);have P3:=P2.call hb3;clear B2 hb3 P2 p0 p1 p2;have p0:=P3.1 0 _ rfl;have p1:=P3.1 1 _ rfl;have p2:=P3.1 2 _ rfl;go_wp2_with (go_at_call 23;fail);refine(HAO1.out w3 B3).mono ?_;rintro e w4 ⟨⟨a2,ac2,rfl,hD⟩,hb4⟩;have HA4:=ae (HA3.out.call hb4);have HD4:=ae hD;have B4:=B3.trans (hb4.mono B3.size);have P4:=P3.call hb4;clear B3 hb4 P3 p0 p1 p2;clear HA1 HA2 HA3 hD HCK HSE HAO1 P4;go_wp2;go_loopw [9,10] (λq i wr=>∃(k:Nat) (sb:Bool),k<=A.length/\i=I Y k/\q=Bb sb/\Hid (sb= !(A.take k).any λx=>x.2 !=3)/\bl w4 wr) (λ_ i _=>A.length - (intOf i).toNat)
 case atStart=>exact⟨0,true,Nat.zero_le _,rfl,rfl,rfl,bR _ _⟩
 case round=>
  obtain⟨k,sb,hk,rfl,rfl,HQ,BR⟩:=hrel;by_cases hlt:k < A.length;rotate_left
  ·have n1:¬(k:Int) < (A.length:Int):=by omega
   have HF:Hid (sb=sv):=by show _=_;rw[HQ.out,HSV.out,List.take_of_length_le (by omega)]
   obtain rfl:=HF.out;have B5:=B4.trans (BR.mono B4.size);clear HQ HSV HF B4 BR HA4 HD4;generalize wr=w5 at *;cases sb
   ·go_wp2_with (go_at_call 24;fail)
    exact tz
   ·go_wp2_with (go_at_call 24;fail)
    exact tz
  have n0:(0:Int)<=(k:Int):=aa;have n1:(k:Int) < (A.length:Int):=aa;obtain⟨b1,rfl,z1,c1,e1⟩:=HA4.out.below BR k hlt;obtain⟨b2,rfl,z2,c2,e2⟩:=HD4.out.below BR k hlt;have HNX:=ae (Ga A k hlt);obtain⟨⟨a1,d1⟩,ea⟩:∃q,q=A[k]:=⟨_,rfl⟩;rw[<-ea] at c1 e1 c2 e2 HNX;clear ea;simp only at c1 e1 c2 e2 HNX;rw[<-HQ.out] at HNX;clear HQ;have BD:bl wr wr.drew:=(bR _ _).drew;have HKZ:Hid ((wr.drew.cell? ⟨b1,k * 2,nO⟩=sO (I Y a1)/\wr.drew.cell? ⟨b1,k * 2+1,nO⟩=sO (I Y d1))/\(wr.drew.cell? ⟨b2,k * 2,nO⟩=sO (I Y a1)/\wr.drew.cell? ⟨b2,k * 2+1,nO⟩=sO (I Y d1))):=⟨⟨by rw[BD.cell (by simp only;exact z1)];exact c1,by rw[BD.cell (by simp only;exact z1)];exact e1⟩,by rw[BD.cell (by simp only;exact z2)];exact c2,by rw[BD.cell (by simp only;exact z2)];exact e2⟩;have f2:wr.drew.cell? ⟨b2,k * 2+1,nO⟩=sO (I Y d1):=by rw[BD.cell (by simp only;exact z2)];exact e2
  clear c1 e1 c2 e2;go_upto_region 13 with fail
  refine aD (S:=(λwx=>(wx.cell? ⟨b1,k * 2,nO⟩=sO (I Y a1)/\wx.cell? ⟨b1,k * 2+1,nO⟩=sO (I Y d1))/\(wx.cell? ⟨b2,k * 2,nO⟩=sO (I Y a1)/\wx.cell? ⟨b2,k * 2+1,nO⟩=sO (I Y d1)))) [] ag HKZ.out (λhHeld=> ?_);refine vZ 0 ?_ ?_;refine vZ 1 ?_ ?_;refine vZ 2 ?_ ?_;refine vZ 3 ?_ ?_;refine vZ 4 ?_ ?_;refine vZ 5 ?_ ?_;refine vZ 6 ?_ ?_;refine vZ 7 ?_ ?_;refine tZ 8 (Bb false) ?_ (hy:=by(intro w hSw;(try dsimp only at hSw);first|(go_simp;done)|(go_simp;simp)));refine sm ?_;refine aC ag ?_ _;have BN:=BR.trans (BD.mono BR.size);clear BR hHeld HKZ BD;generalize wr.drew=wd at *;cases sb with
  |false=>
   have HF:Hid (false= !(A.take (k+1)).any λx=>x.2 !=3):=by show _=_;rw[HNX.out];rfl
   clear HNX f2;go_wp2;go_roundw
   case rel=>exact⟨k+1,false,aa,aJ,rfl,HF.out,BN⟩
   case measure=>simp[intOf];omega
  |true=>
   obtain⟨d3,ed3⟩:∃b,b=(d1==3):=⟨_,rfl⟩;have HF:Hid (d3= !(A.take (k+1)).any λx=>x.2 !=3):=by show _=_;rw[HNX.out,ed3];rfl
   clear HNX;go_wp2;rw[<-ed3];go_roundw
   case rel=>exact⟨k+1,d3,aa,aJ,rfl,HF.out,BN⟩
   case measure=>simp[intOf];omega
end
section
open Go.ChangeShapes Go.WideShapes Go.ChangeAt Go.RowKit
namespace alarmTells

theorem contract (H:Type)(enc:TypeId×Value->H)(W:World)(base:Nat)(args:Array Value)(ds gs:List (DataW H))(before:List MemPlace)
  (hval:∀(j:Nat) t v,Tryz.f6.params[j]? =sO t->args[j]? =sO v->Value.okWide pG W .any base t v)
  (hW:DataW.Whole enc pG Tryz.f6.params.toList Rows.alarmTellsSpec.vars false W args.toList ds gs before)(hL:laidMetH pG Rows.alarmTellsRow.laid W)(hS:W.ShapedOpen pG):
  Calls pG 6 args W λe W'=>∃v,e=Rt v/\Rows.alarmTellsSpec.post enc pG Tryz.f6 false true false false W args v W':=by
 have hlt:=hW.lt;have hW':=hW;obtain⟨p,q,hA0,hV,rfl,hfz,hnd⟩:=hW;have hA:DataW.TrodAll enc pG W 0 (λ_=>true) true Tryz.f6.params.toList args.toList ds p:=hA0;rw[Tryz.params6] at hA hval;obtain⟨v0,vs0,d0,ds0,p0,q0,e0,rfl,rfl,h0,hr0⟩:=trodAll_cons hA;obtain⟨rfl,rfl,rfl⟩:=trodAll_nil hr0;have ea:args=#[v0]:=by cases args;simp_all
 subst ea;obtain⟨rfl,rfl⟩:=trodVars_none hV;obtain⟨V,F,s,cap,c,rfl,hcap,hmax,hcode,-⟩:=Aj (hval 0 24 v0 rfl rfl) h0;have hL':laidMet pG (("math/bits.deBruijn32tab",Rows.laid_math_bits_deBruijn32tab)::("math/bits.deBruijn64tab",Rows.laid_math_bits_deBruijn64tab)::("internal/strconv.uint64pow10",Rows.laid_internal_strconv_uint64pow10)::("unicode/utf8.acceptRanges",Rows.laid_unicode_utf8_acceptRanges)::("strconv.ErrRange",Rows.laid_strconv_ErrRange)::("strconv.ErrSyntax",Rows.laid_strconv_ErrSyntax)::[("unicode/utf8.first",Rows.laid_unicode_utf8_first)]) W:=hL;have hT:=Mu hL'.tail.tail;have hE:=LK hL'.tail.tail.tail.tail.tail;have hM:Cap W:=MA hS;refine(uX V F s c cap W hcode hT hM hE).mono λe W' ⟨he,hb⟩=> ?_;subst he;refine⟨_,rfl,_,_,_,[],p0++[],[],hW',?_,?_,?_,hb.frame _,λh=>by cases h⟩
 ·exact trodAll_mk1 (shut_bool Tryz.underlying4 _)
 ·rw[Tryz.params6]
  exact trodAll_cons_mk (Below.trod (by kernel_rfl) (by kernel_rfl) (of_decide_eq_true (by kernel_rfl)) h0 hb (λx hx=>hlt x (by simp[hx]))) (rfl)
 ·rfl

theorem witness_row (os:Os){H:Type}(enc:TypeId×Value->H):
  (OpenSpec.ofChange Rows.alarmTellsSpec).preRow enc pG Tryz.f6 Rows.alarmTellsRow.domain false Rows.alarmTellsRow.laid ((iV pG os).forCall (λ_ _=>0) ⟨#[],#[Ag #[I Y 0,I Y 0,U nO 0 0]],[]⟩).memory #[Ag #[I Y 0,I Y 0,U nO 0 0]]:=by
 have hw:(DataW.whole enc pG ((iV pG os).forCall (λ_ _=>0) ⟨#[],#[Ag #[I Y 0,I Y 0,U nO 0 0]],[]⟩).memory Tryz.f6.params.toList Rows.alarmTellsSpec.vars false #[Value.agg #[I Y 0,I Y 0,U nO 0 0]].toList 8).isSome=true:=by kernel_rfl
 obtain⟨x,hx⟩:=Option.isSome_iff_exists.1 hw;exact OpenSpec.preRow_of_cond 8 hx rfl (λk hk=>by cases hk) (by kernel_rfl) (FV os _)

theorem lifted (os:Os)(started:os.Started)(H:Type)(enc:TypeId×Value->H)(F:Stop.Interp):
  ReturnsInHanded {} Tryz.checked os 6 .any ((OpenSpec.ofChange Rows.alarmTellsSpec).preRow enc pG Tryz.f6 Rows.alarmTellsRow.domain false Rows.alarmTellsRow.laid) (((OpenSpec.ofChange Rows.alarmTellsSpec).at F).post enc pG Tryz.f6 false true false false):=by
 refine returnsInHanded_of_row (C:=Tryz.checked) (s:=OpenSpec.ofChange Rows.alarmTellsSpec) own started (by kernel_rfl) Tryz.func6
  (witness_row_atRef (enc:=enc) (C:=Tryz.checked) false (iV pG os) #[Ag #[I Y 0,I Y 0,U nO 0 0]] rfl (by kernel_rfl) (by kernel_rfl) (by kernel_rfl) (witness_row os enc)) ?_
 intro W base args ds gs before hval hW _ _ _ hL hS _;exact contract H enc W base args ds gs before hval hW hL hS

theorem and_t {a b:Bool}(h:a=true)(k:b=true):(a&&b)=true:=by rw[h,k];rfl
theorem closed:joinedFacts pG 6 Tryz.f6 (OpenSpec.ofChange Rows.alarmTellsSpec).bare Rows.alarmTellsRow=true:=by
 unfold joinedFacts;repeat' (with_reducible refine and_t ?_ ?_)
 all_goals (as_aux_lemma=>kernel_rfl)

theorem said:Rows.AlarmTellsSaid:=
 OpenClaim.holds_of_cond 6 Tryz.f6 rfl rfl rfl rfl rfl rfl rfl ⟨rfl,rfl,rfl,rfl,rfl⟩ rfl rfl rfl rfl rfl (by kernel_rfl) Tryz.func6 closed
  (of_decide_eq_true (by kernel_rfl)) (by unfold Func.isWrapper;first|(rw[if_pos (by decide+kernel)];kernel_rfl)|(rw[if_neg (by decide+kernel)];exact⟨rfl,rfl⟩))
  (λos started H enc _ F=>by rw[OpenClaim.pre_eq_preRow];exact lifted os started H enc F)

theorem plain (f:FuncId)(fn:Func)(hf:Tryz.pinned.checked.prog.funcNamed "soundings/soundingslaw.AlarmTells" =sO f)(hfn:Tryz.pinned.checked.prog.funcs[f]? =sO fn):
  true=Tryz.pinned.checked.prog.looks []/\∀(j:Nat) t,fn.params[j]? =sO t->Tryz.pinned.checked.prog.wantsStandIn t=false:=by
 obtain rfl:f=6:=j3.inj ((show Tryz.prog.funcNamed "soundings/soundingslaw.AlarmTells" =sO 6 by kernel_rfl).symm.trans hf) |>.symm;obtain rfl:fn=Tryz.f6:=(j3.inj (Tryz.func6.symm.trans hfn)).symm;refine⟨by kernel_rfl,λj t ht=> ?_⟩;rw[Tryz.params6] at ht;have hm:t=24:=by simpa using Array.mem_of_getElem? ht
 rcases hm with rfl;exact(show Tryz.prog.wantsStandIn 24=false by kernel_rfl)
end alarmTells

theorem alarmTells_holds:Rows.AlarmTellsCardSaid:=
 Claim7.holds_tied_plain_at .later [] _ _ _ _ alarmTells.said (λ_ h=>by cases h) (by kernel_rfl) (λ_ h=>by cases h) alarmTells_row_tie rfl ⟨rfl,rfl⟩ (by kernel_rfl) rfl alarmTells.plain (by kernel_rfl)
end
end Go.Proofs.YtmapdpcfanecdabGreatDoor
