/- For every text that the law AlarmReports is handed, it returns true and leaves it as it was: Report of package alarm answers just what the document's own words ask, errors too. No condition but the row's own: the listed package-level variables hold what the program's text lays. -/
import Derived.Test.YtmapdpcfanecdabGreatDoorR30
import Derived.ChangeMaps5
open Bool renaming eq_false_or_eq_true→j1
open Go.Ending renaming returned→Rt
open Go.IntKind renaming i64→Y
open Go.Obj renaming cells→Cc
open Go.Proofs.Tryz renaming prog→pG
open Go.RowKit.Below renaming refl→bR
open Go.Value renaming agg→Ag,bool→Bb,bool→j0,int→I,slice→U,tuple→Tu
open Go.World renaming grownBy_alloc→j2,size_alloc→zA
open List renaming getElem_mem→gM
open Nat renaming le_refl→lR
open Option renaming none→nO,some→j3,some→sO
set_option linter.unusedSimpArgs false
set_option linter.unusedVariables false
set_option maxHeartbeats 80000000
set_option maxRecDepth 100000
namespace Go.Proofs.YtmapdpcfanecdabGreatDoor
section
open Go.RowKit
attribute [local go_sem ↓] Go.wp_at_zero Go.wp_at_succ
def Wl (A:List (Int×Int))(e:Ending)(w':World):Prop:=∃(a:oA) (ac:Nat),e=Rt (U a A.length ac)/\AlsAt w' a A
theorem KO {B:Nat}{W:World}{v:Value}{A:List (Int×Int)}(h:W.ownsRow B 62 2 v A.length (alC A)):∃a cp,v=U a A.length cp:=by
 rcases h.2 with⟨h,h2⟩|⟨g,cp,_,h,_⟩
 ·exact⟨nO,0,by rw[h,h2]⟩
 ·exact⟨_,_,h⟩
theorem Gk {B:Nat}{w2 W W4:World}{v v':Value}{A:List (Int×Int)}{k kind:Int}{O:Obj}(hO:W.ownsRow B 62 2 v A.length (alC A))(BR:Below B w2 W)(hB:B<=W.heap.size)(hown:W4.ownsRow B 62 2 v' (A.length+1) (alC A++[I Y k,I Y kind]))(hgrow:(W.alloc O).grownBy W4 v.ownBlock):
  W4.ownsRow B 62 2 v' (bX A k kind true).length (alC (bX A k kind true))/\Below B w2 W4:=by
 have hz:=sQ;have h:W4.ownsRow B 62 2 v' (A++[(k,kind)]).length (alC (A++[(k,kind)])):=by
  rw[<-KU,List.length_append];exact hown
 exact⟨h,(BR.alloc hB O).grown hgrow aa (λq hq=>(hO.lt q hq).1)⟩
theorem Bj {p:Prop}(h:p:=by
 intro v' w9 hown hgrow hat;have HN:=ah (Gk HO.out BR zB hown hgrow);clear hown hgrow hat S4;go_wp2_with fail;go_meet;obtain⟨a9,c9,e9⟩:=KO HN.out.1;rw[HE.out];exact⟨a9,c9,e9,by show _;rw[<-e9];exact HN.out.1,HN.out.2⟩):p:=h
theorem FN (V F:Int)(s:oA)(c:lI)(cap m:Nat)(w:World)(hc:CodeAt w s c)(h0:au V F c=0)(hs:SolvedAt V F c m):
  Calls pG 23 #[pv V F s c cap] w λe w'=>Wl (aN c (aI V F c m) c.length) e w'/\bl w w':=by
 obtain⟨ti,hi,hz0,hz1,hz2⟩:=info_parts Tryz.info_alarm;have h60:=iY;have B0:=gY;have P0:=nk;have HXO:=ah (d8 h0 m);have HC:=ah hc;have H0:=ah h0;have HSO:Hid (∀wx,bl w wx->Calls pG 31 #[pv V F s c cap] wx λe w'=>(∃pb pc:Nat,e=Rt (Tu #[U (sO ⟨pb,0,nO⟩) (c.length+1) pc,I Y ((m+1:Nat):Int)])/\XsAt w' (sO ⟨pb,0,nO⟩) (aI V F c m))/\bl wx w'):=λwx hb=>by
  refine(LH V F s c cap wx (hc.below hb (lR _)) h0).mono ?_;rintro e w' ⟨⟨m',pb,pc,hs',_,rfl,hx'⟩,hb'⟩;obtain rfl:=hs'.one hs;exact⟨⟨pb,pc,rfl,hx'⟩,hb'⟩
 generalize aI V F c m=L at *;clear hc h0 hs;go_enter Tryz.func23,Tryz.ntmps23;go_upto_region 1 with fail
 generalize w.alloc (Cc #[I Y V,I Y F,U s c.length cap] 24)=w0 at *;obtain⟨⟨p0,p1,p2⟩,pz⟩:=id P0;go_wp2_with fail;refine(HSO.out w0 B0).mono ?_;rintro e w2 ⟨⟨pb,pc,rfl,hX⟩,hb2⟩;have HX:=ah hX;have B2:=B0.trans (hb2.mono B0.size);have P2:=P0.call hb2;clear hX HSO p0 p1 p2 pz P0 B0 hb2;have HB2:=ah B2;clear B2;have O0:w2.ownsRow w2.heap.size 62 2 (U nO (aN c L 0).length 0) (aN c L 0).length (alC (aN c L 0)):=World.ownsRow_nil _ _ _ _;go_wp2;go_loopw [5,6] (λv i wr=>∃(k:Nat) (va:oA) (vcp:Nat),k<=c.length/\i=I Y k/\v=U va (aN c L k).length vcp/\Hid (wr.ownsRow w2.heap.size 62 2 (U va (aN c L k).length vcp) (aN c L k).length (alC (aN c L k)))/\bl w2 wr) (λ_ i _=>c.length - (intOf i).toNat)
 case atStart=>exact⟨0,nO,0,Nat.zero_le _,rfl,rfl,O0,bR _ _⟩
 case round=>
  clear O0;obtain⟨k,va,vcp,hk,rfl,rfl,HO,BR⟩:=hrel;have PR:=P2.call BR;obtain⟨⟨p0,p1,p2⟩,pz⟩:=id PR;by_cases hlt:k < c.length;rotate_left
  ·have n1:=k8
   have ek:=iS;subst ek;have HA:=ah (nR HO.out);clear HO;go_wp2;go_ret;exact⟨⟨va,vcp,rfl,HA.out⟩,HB2.out.trans (BR.mono HB2.out.size)⟩
  have hxl:k < L.length:=by rw[HXO.out.len];omega
  obtain⟨_,_,els,zpb,vs,vc,fs,fc,⟨q0,q1,q2⟩,hPx,hvx,hfx⟩:=HX.out.below BR (lR _) k hxl;cases els;simp only[Nat.zero_add] at q0 q1 q2;obtain⟨x,ex⟩:∃x,x=L[k]:=⟨_,rfl⟩;have hckx:aM V F c x=0:=MG;have exa:bj L (k:Int)=x:=by rw[il hxl,ex]
  rw[<-ex] at q0 q1 q2 hPx hvx hfx;obtain⟨⟨E,f1,f2⟩,er⟩:∃r,r=aA (bL c (k:Int)) (k:Int) x:=⟨_,rfl⟩;have HAN:Hid (aN c L (k+1)=bX (bX (bX (aN c L k) (k:Int) 1 f1) (k:Int) 2 f2) (k:Int) 3 x.none):=by
   show _=_;rw[gP];unfold kU;rw[exa,<-er]
  have HST:Hid (∀wx,bl wr wx->Calls pG 59 #[pv V F s c cap,I Y (k:Int),xv x vs vc fs fc] wx λe w'=>(∃es ec,e=Rt (Tu #[U es E.length ec,Bb f1,Bb f2]))/\bl wx w'):=λwx hb=>by
   have b:=HB2.out.trans (BR.mono HB2.out.size);have h:=EQ (λ_=>True) V F s c cap (k:Int) x vs vc fs fc wx (HC.out.below (b.trans (hb.mono b.size)) (lR _)) (λw2 h2 hz=>(hPx.call hb).same (λb hb=>h2 b trivial hb) hz) H0.out hckx aa aa hvx hfx;rw[<-er] at h;refine h.mono ?_;rintro e w' ⟨⟨es,ec,rfl,-⟩,hb'⟩;exact⟨⟨es,ec,rfl⟩,hb'⟩
  have HKZ:Hid (∀wx,bl wr wx->(wx.cell? ⟨w.heap.size,0,nO⟩=sO (I Y V)/\wx.cell? ⟨w.heap.size,1,nO⟩=sO (I Y F)/\wx.cell? ⟨w.heap.size,2,nO⟩=sO (U s c.length cap))/\(wx.cell? ⟨pb,k * 3,nO⟩=sO (Bb x.none)/\wx.cell? ⟨pb,k * 3+1,nO⟩=sO (U vs x.vq.length vc)/\wx.cell? ⟨pb,k * 3+2,nO⟩=sO (U fs x.fq.length fc))):=λwx hb=>by
   have q:=λj=>hb.cell (p:=⟨pb,j,nO⟩) (by simp only;exact zpb);exact⟨(PR.call hb).1,(q _).trans q0,(q _).trans q1,(q _).trans q2⟩
  have HNN:Hid (∀wx,bl w2 wx->wx.cell? ⟨pb,k * 3,nO⟩=sO (Bb x.none)):=λwx hb=>by
   obtain⟨_,_,els,_,vs',vc',fs',fc',⟨h0,_⟩,_⟩:=HX.out.below hb (lR _) k hxl;cases els;rw[Nat.zero_add,<-ex] at h0;exact h0
  have hlA:(aN c L k).length<=200:=by have:=ip (c:=c) (L:=L) (k:=k);omega
  have B34:=dA;have n0:=bx;have n1:=gF;have n2:(k:Int) < ((c.length+1:Nat):Int):=aa;have n3:=rv;clear er exa hckx hPx hvx hfx q0 q1 q2 ex;obtain⟨A,eA⟩:∃A,A=aN c L k:=⟨_,rfl⟩;rw[<-eA] at HO HAN hlA |-;clear eA;go_upto_region 6 with fail
  refine aG (S:=(λwx=>(wx.cell? ⟨w.heap.size,0,nO⟩=sO (I Y V)/\wx.cell? ⟨w.heap.size,1,nO⟩=sO (I Y F)/\wx.cell? ⟨w.heap.size,2,nO⟩=sO (U s c.length cap))/\(wx.cell? ⟨pb,k * 3,nO⟩=sO (Bb x.none)/\wx.cell? ⟨pb,k * 3+1,nO⟩=sO (U vs x.vq.length vc)/\wx.cell? ⟨pb,k * 3+2,nO⟩=sO (U fs x.fq.length fc)))) [] ae (HKZ.out _ B34) (λhHeld=> ?_);generalize wr.drew=w4 at *;refine vZ 0 ?_ ?_;refine vZ 1 ?_ ?_;refine vZ 2 ?_ ?_;refine vZ 3 ?_ ?_;refine vZ 4 ?_ ?_;refine vZ 5 ?_ ?_;refine aB (i:=6) rfl ae (λK hK=> ?_);go_simp;go_at_call 59;refine(HST.out w4 B34).mono ?_;rintro e w5 ⟨⟨es,ec,rfl⟩,hb5⟩;have B5:=B34.trans (hb5.mono B34.size);clear hb5;go_wp2_with fail;refine hK.out _ _ (HKZ.out _ B5) (λhHeld=> ?_);clear hK K;refine sm ?_;refine vZ 7 ?_ ?_;refine vZ 8 ?_ ?_;refine vZ 9 ?_ ?_;refine vZ 10 ?_ ?_;refine vZ 11 ?_ ?_;refine vZ 12 ?_ ?_;refine vZ 13 ?_ ?_;refine aC ae ?_ _;have HO5:Hid (w5.ownsRow w2.heap.size 62 2 (U va A.length vcp) A.length (alC A)):=bA HO.out (λk hk=>B5.block k (HO.out.lt k hk).2);have BR5:=BR.trans (B5.mono BR.size);clear hHeld HKZ HST B34 B5 BR HO PR p0 p1 p2 pz;have HO:=HO5;have BR:=BR5;clear HO5 BR5;go_upto_if 33 with fail
  generalize w5=wq at *;clear w5;go_cut [5] (λt5 wc=>∃(ua:oA) (ucp:Nat),t5=U ua (bX A (k:Int) 1 f1).length ucp/\Hid (wc.ownsRow w2.heap.size 62 2 (U ua (bX A (k:Int) 1 f1).length ucp) (bX A (k:Int) 1 f1).length (alC (bX A (k:Int) 1 f1)))/\bl w2 wc)
  case first=>
   rcases j1 f1 with e|e
   ·refine wp_cond_split (congrArg j0 e) (λ_=> ?_) (λh=>aT)
    have HE:=ah e;clear e;have S4:=HO.out.kept (j2 wq (Cc #[I Y (k:Int),I Y 1] 62) nO) (by cases e:(Value.slice va A.length vcp).ownBlock with|none=>exact .inl rfl|some q=>exact .inr ag);have zB:=BR.size;go_wp2_with (at_builtin;refine bh _ rfl _ _ 55 rfl w2.heap.size 62 ti (Ag #[I Y 0,I Y 0]) 2 16 Tryz.underlying55 hi hz0 hz1 hz2 rfl ai _ _ _ rfl S4 (sO ⟨wq.heap.size,0,nO⟩) 1 1 [I Y (k:Int),I Y 1] rfl rfl (λh=>aT) ?q12 ?q13 ?q14 ?q15 ?q16 ?_);(try case q12=>exact kf wq 62 [I Y (k:Int),I Y 1]);(try case q13=>first|exact⟨rfl,rfl⟩|(intro u hu;simp at hu;rcases hu with rfl|rfl<;>rfl));(try case q14=>first|(unfold maxLen;omega)|omega);(try case q15=>omega);(try case q16=>first|(rw[zA];omega)|omega);exact Bj
   ·refine wp_cond_split (congrArg j0 e) (λh=>aT) (λ_=> ?_)
    have HE:=ah e;clear e;go_wp2_with fail;go_meet;rw[HE.out];exact⟨_,_,rfl,HO.out,BR⟩
  clear HO BR;obtain⟨va',vcp',rfl,HO',BR'⟩:=hcut;obtain⟨A1,eA1⟩:∃q,q=bX A (k:Int) 1 f1:=⟨_,rfl⟩;rw[<-eA1] at HO' |-;have HA1:=ah eA1;have hlA1:A1.length<=A.length+1:=by rw[eA1];exact iG
  clear eA1;have HO:=HO';have BR:=BR';clear HO' BR';generalize va'=va at *;generalize vcp'=vcp at *;clear va' vcp';go_upto_if 39 with fail
  generalize wc=wq at *;clear wc;go_cut [5] (λt5 wc=>∃(ua:oA) (ucp:Nat),t5=U ua (bX A1 (k:Int) 2 f2).length ucp/\Hid (wc.ownsRow w2.heap.size 62 2 (U ua (bX A1 (k:Int) 2 f2).length ucp) (bX A1 (k:Int) 2 f2).length (alC (bX A1 (k:Int) 2 f2)))/\bl w2 wc)
  case first=>
   rcases j1 f2 with e|e
   ·refine wp_cond_split (congrArg j0 e) (λ_=> ?_) (λh=>aT)
    have HE:=ah e;clear e;have S4:=HO.out.kept (j2 wq (Cc #[I Y (k:Int),I Y 2] 62) nO) (by cases e:(Value.slice va A1.length vcp).ownBlock with|none=>exact .inl rfl|some q=>exact .inr ag);have zB:=BR.size;go_wp2_with (at_builtin;refine bh _ rfl _ _ 55 rfl w2.heap.size 62 ti (Ag #[I Y 0,I Y 0]) 2 16 Tryz.underlying55 hi hz0 hz1 hz2 rfl ai _ _ _ rfl S4 (sO ⟨wq.heap.size,0,nO⟩) 1 1 [I Y (k:Int),I Y 2] rfl rfl (λh=>aT) ?q22 ?q23 ?q24 ?q25 ?q26 ?_);(try case q22=>exact kf wq 62 [I Y (k:Int),I Y 2]);(try case q23=>first|exact⟨rfl,rfl⟩|(intro u hu;simp at hu;rcases hu with rfl|rfl<;>rfl));(try case q24=>first|(unfold maxLen;omega)|omega);(try case q25=>omega);(try case q26=>first|(rw[zA];omega)|omega);exact Bj
   ·refine wp_cond_split (congrArg j0 e) (λh=>aT) (λ_=> ?_)
    have HE:=ah e;clear e;go_wp2_with fail;go_meet;rw[HE.out];exact⟨_,_,rfl,HO.out,BR⟩
  clear HO BR;obtain⟨va',vcp',rfl,HO',BR'⟩:=hcut;obtain⟨A2,eA2⟩:∃q,q=bX A1 (k:Int) 2 f2:=⟨_,rfl⟩;rw[<-eA2] at HO' |-;have HA2:=ah eA2;have hlA2:A2.length<=A1.length+1:=by rw[eA2];exact iG
  clear eA2;have HO:=HO';have BR:=BR';clear HO' BR';generalize va'=va at *;generalize vcp'=vcp at *;clear va' vcp';have q0:=HNN.out wc BR;go_upto_if 49 with fail
  generalize wc=wq at *;clear wc;have HFN:Hid (aN c L (k+1)=bX A2 (k:Int) 3 x.none):=by show _=_;rw[HAN.out,HA2.out,HA1.out]
  clear HAN HA1 HA2 HNN q0;rcases j1 x.none with e|e
  ·refine wp_cond_split (congrArg j0 e) (λ_=> ?_) (λh=>aT)
   rw[e] at HFN;clear e;have S4:=HO.out.kept (j2 wq (Cc #[I Y (k:Int),I Y 3] 62) nO) (by cases e:(Value.slice va A2.length vcp).ownBlock with|none=>exact .inl rfl|some q=>exact .inr ag);have zB:=BR.size;go_wp2_with (at_builtin;refine bh _ rfl _ _ 55 rfl w2.heap.size 62 ti (Ag #[I Y 0,I Y 0]) 2 16 Tryz.underlying55 hi hz0 hz1 hz2 rfl ai _ _ _ rfl S4 (sO ⟨wq.heap.size,0,nO⟩) 1 1 [I Y (k:Int),I Y 3] rfl rfl (λh=>aT) ?q32 ?q33 ?q34 ?q35 ?q36 ?_);(try case q32=>exact kf wq 62 [I Y (k:Int),I Y 3]);(try case q33=>first|exact⟨rfl,rfl⟩|(intro u hu;simp at hu;rcases hu with rfl|rfl<;>rfl));(try case q34=>first|(unfold maxLen;omega)|omega);(try case q35=>omega);(try case q36=>first|(rw[zA];omega)|omega);intro v' w9 hown hgrow hat;have HN:=ah (Gk HO.out BR zB hown hgrow);clear hown hgrow hat S4;obtain⟨a9,c9,e9⟩:=KO HN.out.1;subst e9;rw[<-HFN.out] at HN |-;clear HFN;go_wp2;go_roundw
   case rel=>exact⟨k+1,a9,c9,aa,aF,rfl,HN.out.1,HN.out.2⟩
   case measure=>simp[intOf];omega
  ·refine wp_cond_split (congrArg j0 e) (λh=>aT) (λ_=> ?_)
   rw[e] at HFN;clear e;have HFM:Hid (aN c L (k+1)=A2):=HFN.out;clear HFN;rw[<-HFM.out] at HO |-;clear HFM;go_wp2;go_roundw
   case rel=>exact⟨k+1,va,vcp,aa,aF,rfl,HO.out,BR⟩
   case measure=>simp[intOf];omega
theorem Rh {V F:Int}{c:lI}(h0:au V F c=0):∃m,SolvedAt V F c m:=by
 refine Classical.byContradiction λhno=> ?_;have all:∀m k,k < m->(dt c ((k+1:Nat):Int) (aI V F c k)).2=true:=by
  intro m;induction m with
  |zero=>exact λk hk=>absurd hk aa
  |succ m ih=>
   intro k hk;by_cases e:k=m
   ·subst e
    refine Classical.byContradiction λhf=>hno ⟨k,ih,?_⟩;simpa using hf
   ·exact ih k aa
 have:=kH h0 (m:=200000000000001) (all _);omega
theorem Fc {c:lI}{L:List Pic}{n:Nat}{a:Int×Int}(h:a∈aN c L n):a.2=1\/a.2=2\/a.2=3:=by
 obtain⟨k,d⟩:=a;rcases (alarmsTo_in.1 h).2 with⟨h,_⟩|⟨h,_⟩|⟨h,_⟩
 ·exact .inl h
 ·exact .inr (.inl h)
 ·exact .inr (.inr h)
theorem pF {p:Prop}(h:p:=by
 clear HNX HX;go_wp2_with fail;refine(n8 a1 wr hf1).mono ?_;rintro e w9 ⟨rfl,hb9⟩;have BN:=BR.trans (hb9.mono BR.size);clear BR hb9 c1 e1;go_wp2;go_roundw
 case rel=>exact⟨k+1,_,aa,aF,rfl,HN.out,BN⟩
 case measure=>simp[intOf];omega):p:=h
theorem yh (s:ByteArray)(w:World)(ht:Tab w)(hm:Cap w)(hE:ErrS w):
  Calls pG 7 #[.string s] w λe w'=>e=Rt (Bb true)/\bl w w':=by
 have HTB:=ah (λwx (hb:bl w wx)=>ht.below hb);have HMB:=ah (λwx (hb:bl w wx)=>hm.below hb);have HEB:=ah (λwx (hb:bl w wx)=>hE.below hb);have HRP:=ah (AD s w (vu s) ht hm hE);have HPO:=ah (λwx=>Lx s wx);have hfl:=vu s;have hsz:=lR s.size;clear ht hm hE;by_cases hs:4000 < s.size
 ·have HR1:Hid (Calls pG 25 #[.string s] w λe w'=>e=Rt (Tu #[.string ⟨#[]⟩,I Y 2])/\bl w w'):=by
   refine HRP.out.mono ?_;rintro e w' ⟨⟨_,rfl⟩|⟨h,_⟩|⟨h,_⟩,hb'⟩
   ·exact⟨rfl,hb'⟩
   ·omega
   ·omega
  have n1:=sA;clear HRP hs hsz hfl;unfold IW at HPO;generalize (aD s).1.1=V at *;generalize (aD s).1.2.1=F at *;generalize (aD s).1.2.2=c at *;generalize (aD s).2.1=ln at *;generalize (aD s).2.2=er at *;go_enter Tryz.func7,Tryz.ntmps7;go_wp2_with fail;refine HR1.out.mono ?_;rintro e w1 ⟨rfl,hb1⟩;clear HR1;go_wp2_with fail;refine(HPO.out w1).mono ?_;rintro e w2 ⟨⟨v2,rfl,hown⟩,hb2⟩;obtain⟨sa,sc,rfl,-⟩:=dy hown;have hb3:=yG;have B2:=lm;have B3:=fG;clear hown HPO hb1 hb2 hb3 B2;go_upto_region 3 with fail
  generalize w2.alloc (Cc #[I Y V,I Y F,U sa c.length sc] 24)=w3 at *;go_wp2_with fail;refine(ld w3 (HTB.out w3 B3) (HMB.out w3 B3) (HEB.out w3 B3)).mono ?_;rintro e w4 ⟨rfl,hb4⟩;have B4:=lF;go_wp2;go_ret;exact⟨rfl,B4⟩
 have n1:=mS;have HCK:=GL;unfold IW at HPO;by_cases he:(aD s).2.2=0;rotate_left
 ·have HR1:Hid (Calls pG 25 #[.string s] w λe w'=>e=Rt (Tu #[.string (DV (aD s).2.1),I Y 0])/\bl w w'):=by
   refine HRP.out.mono ?_;rintro e w' ⟨⟨h,_⟩|⟨_,_,rfl⟩|⟨_,h,_⟩,hb'⟩
   ·exact absurd h hs
   ·exact⟨rfl,hb'⟩
   ·exact absurd h he
  clear HRP hs hsz HCK;generalize (aD s).1.1=V at *;generalize (aD s).1.2.1=F at *;generalize (aD s).1.2.2=c at *;generalize (aD s).2.1=ln at *;generalize (aD s).2.2=er at *;have f1:(er !=0)=true:=by simpa using he
  have z1:=kL ln hfl;clear he;go_enter Tryz.func7,Tryz.ntmps7;go_wp2_with fail;refine HR1.out.mono ?_;rintro e w1 ⟨rfl,hb1⟩;clear HR1;go_wp2_with fail;refine(HPO.out w1).mono ?_;rintro e w2 ⟨⟨v2,rfl,hown⟩,hb2⟩;obtain⟨sa,sc,rfl,-⟩:=dy hown;have hb3:=yG;have B2:=lm;have B3:=fG;clear hown HPO hb1 hb2 hb3 B2;go_upto_region 3 with fail
  generalize w2.alloc (Cc #[I Y V,I Y F,U sa c.length sc] 24)=w3 at *;go_wp2_with fail;refine(n8 ln w3 hfl).mono ?_;rintro e w4 ⟨rfl,hb4⟩;have B4:=lF;unfold DV;clear B3 hb4;go_wp2_with fail;refine(ld w4 (HTB.out w4 B4) (HMB.out w4 B4) (HEB.out w4 B4)).mono ?_;rintro e w5 ⟨rfl,hb5⟩;have B5:=lq;go_wp2;go_ret;exact⟨rfl,B5⟩
 have h0:=HCK.out he;obtain⟨m,HR1,hsv⟩:∃m,Hid (Calls pG 25 #[.string s] w λe w'=>e=Rt (Tu #[.string (cG (aN (aD s).1.2.2 (aI (aD s).1.1 (aD s).1.2.1 (aD s).1.2.2 m) (aD s).1.2.2.length)),I Y 0])/\bl w w')/\SolvedAt (aD s).1.1 (aD s).1.2.1 (aD s).1.2.2 m:=by
  obtain⟨m,hsv⟩:=Rh h0;refine⟨m,?_,hsv⟩;refine HRP.out.mono ?_;rintro e w' ⟨⟨h,_⟩|⟨_,h,_⟩|⟨_,_,_,m',hs',rfl⟩,hb'⟩
  ·exact absurd h hs
  ·exact absurd he h
  ·obtain rfl:=hs'.one hsv
   exact⟨rfl,hb'⟩
 clear HRP hs hsz HCK hfl;generalize (aD s).1.1=V at *;generalize (aD s).1.2.1=F at *;generalize (aD s).1.2.2=c at *;generalize (aD s).2.1=ln at *;generalize (aD s).2.2=er at *;subst he;have h60:=iY;have HAO:=ah (λwx sa sc (hc:CodeAt wx sa c)=>FN V F sa c sc m wx hc h0 hsv);have HFI:=F8;have HKI:Hid (∀q∈aN c (aI V F c m) c.length,q.2=1\/q.2=2\/q.2=3):=λq hq=>Fc hq;have hll:(aN c (aI V F c m) c.length).length<=180:=Ni;generalize aN c (aI V F c m) c.length=A at *;clear hsv h0 h60;have HLE:=KN;obtain⟨TT,eTT⟩:∃t,t=cG A:=⟨_,rfl⟩;rw[<-eTT] at HR1;have HTT:=ah eTT;clear eTT;go_enter Tryz.func7,Tryz.ntmps7;go_wp2_with fail;refine HR1.out.mono ?_;rintro e w1 ⟨rfl,hb1⟩;clear HR1;go_wp2_with fail;refine(HPO.out w1).mono ?_;rintro e w2 ⟨⟨v2,rfl,hown⟩,hb2⟩;obtain⟨sa,sc,rfl,hc2⟩:=dy hown;have hb3:=yG;have B2:=lm;have B3:=fG;have P3:Cells (w2.alloc (Cc #[I Y V,I Y F,U sa c.length sc] 24)) w2.heap.size [I Y V,I Y F,U sa c.length sc]:=Cells.new w2 _ [_,_,_];have C3:=hc2.call hb3;clear hown HPO hb1 hb2 hb3 B2 hc2;go_upto_region 3 with fail
 generalize w2.alloc (Cc #[I Y V,I Y F,U sa c.length sc] 24)=w3 at *;have p0:=P3.1 0 _ rfl;have p1:=P3.1 1 _ rfl;have p2:=P3.1 2 _ rfl;go_wp2_with fail;refine(HAO.out w3 sa sc C3).mono ?_;rintro e w4 ⟨⟨a,ac,rfl,hD⟩,hb4⟩;have HD:=ah hD;have B4:=lF;clear hD HAO p0 p1 p2 P3 C3 hb4 B3;go_wp2;go_loopw [8,10] (λv i wr=>∃(k:Nat) (X:ByteArray),k<=A.length/\i=I Y k/\v=.string X/\Hid (X=cG (A.take k))/\bl w4 wr) (λ_ i _=>A.length - (intOf i).toNat)
 case atStart=>exact⟨0,_,Nat.zero_le _,rfl,rfl,rfl,bR _ _⟩
 case round=>
  obtain⟨k,X,hk,rfl,rfl,HX,BR⟩:=hrel;by_cases hlt:k < A.length;rotate_left
  ·have n2:=yQ
   have HF:Hid (X=TT):=by show _=_;rw[HX.out,HTT.out,List.take_of_length_le (by omega)]
   obtain rfl:=HF.out;have B5:=B4.trans (BR.mono B4.size);clear HX HTT HF B4 BR HD;generalize wr=w5 at *;go_wp2_with fail;refine(ld w5 (HTB.out w5 B5) (HMB.out w5 B5) (HEB.out w5 B5)).mono ?_;rintro e w6 ⟨rfl,hb6⟩;have B6:=rU;go_wp2;go_ret;exact⟨rfl,B6⟩
  have m0:=bx;have m1:(k:Int) < (A.length:Int):=aa;obtain⟨b1,rfl,z1,c1,e1⟩:=HD.out.below BR k hlt;have hf1:=HFI.out _ (gM hlt);have hki:=HKI.out _ (gM hlt);have HNX:=ah (nE hlt);have zX:X.size<=40 * k:=by rw[HX.out];exact HLE.out k hk
  obtain⟨⟨a1,d1⟩,ea⟩:∃q,q=A[k]:=⟨_,rfl⟩;rw[<-ea] at c1 e1 HNX hf1 hki;clear ea;simp only at c1 e1 HNX hf1 hki;have zi:=kL a1 hf1;rcases hki with e|e|e
  ·subst e
   have HN:Hid (X++(eI a1++⟨#[32]⟩++⟨#[119,114,111,110,103]⟩++⟨#[10]⟩)=cG (A.take (k+1))):=DJ;exact pF
  ·subst e
   have HN:Hid (X++(eI a1++⟨#[32]⟩++⟨#[102,97,105,108,101,100]⟩++⟨#[10]⟩)=cG (A.take (k+1))):=DJ;exact pF
  ·subst e
   have HN:Hid (X++(eI a1++⟨#[32]⟩++⟨#[105,100,108,101]⟩++⟨#[10]⟩)=cG (A.take (k+1))):=DJ;exact pF
end
section
open Go.ChangeShapes Go.WideShapes Go.ChangeAt Go.RowKit
namespace alarmReports

theorem contract (H:Type)(enc:TypeId×Value->H)(W:World)(base:Nat)(args:Array Value)(ds gs:List (DataW H))(before:List MemPlace)
  (hval:∀(j:Nat) t v,Tryz.f7.params[j]? =sO t->args[j]? =sO v->Value.okWide pG W .any base t v)
  (hW:DataW.Whole enc pG Tryz.f7.params.toList Rows.alarmReportsSpec.vars false W args.toList ds gs before)(hL:laidMetH pG Rows.alarmReportsRow.laid W)(hS:W.ShapedOpen pG):
  Calls pG 7 args W λe W'=>∃v,e=Rt v/\Rows.alarmReportsSpec.post enc pG Tryz.f7 false true false false W args v W':=by
 have hlt:=hW.lt;have hW':=hW;obtain⟨p,q,hA0,hV,rfl,hfz,hnd⟩:=hW;have hA:DataW.TrodAll enc pG W 0 (λ_=>true) true Tryz.f7.params.toList args.toList ds p:=hA0;rw[Tryz.params7] at hA hval;obtain⟨v0,vs0,d0,ds0,p0,q0,e0,rfl,rfl,h0,hr0⟩:=trodAll_cons hA;obtain⟨rfl,rfl,rfl⟩:=trodAll_nil hr0;have ea:args=#[v0]:=by cases args;simp_all
 subst ea;obtain⟨rfl,rfl⟩:=trodVars_none hV;obtain⟨t,rfl,-,-,hlen0⟩:=Go.ChangeMaps.open_string Tryz.underlying9 (hval 0 9 v0 rfl rfl) h0;have hL':laidMet pG (("math/bits.deBruijn32tab",Rows.laid_math_bits_deBruijn32tab)::("math/bits.deBruijn64tab",Rows.laid_math_bits_deBruijn64tab)::("internal/strconv.uint64pow10",Rows.laid_internal_strconv_uint64pow10)::("unicode/utf8.acceptRanges",Rows.laid_unicode_utf8_acceptRanges)::("strconv.ErrRange",Rows.laid_strconv_ErrRange)::("strconv.ErrSyntax",Rows.laid_strconv_ErrSyntax)::[("unicode/utf8.first",Rows.laid_unicode_utf8_first)]) W:=hL;have hT:=Wr hL'.tail.tail;have hE:=VT hL'.tail.tail.tail.tail.tail;have hM:Cap W:=WB hS;refine(yh t W hT hM hE).mono λe W' ⟨he,hb⟩=> ?_;subst he;refine⟨_,rfl,_,_,_,[],p0++[],[],hW',?_,?_,?_,hb.frame _,λh=>by cases h⟩
 ·exact trodAll_mk1 (shut_bool Tryz.underlying4 _)
 ·rw[Tryz.params7]
  exact trodAll_cons_mk (Below.trod (by kernel_rfl) (by kernel_rfl) (of_decide_eq_true (by kernel_rfl)) h0 hb (λx hx=>hlt x (by simp[hx]))) (rfl)
 ·rfl

theorem witness_row (os:Os){H:Type}(enc:TypeId×Value->H):
  (OpenSpec.ofChange Rows.alarmReportsSpec).preRow enc pG Tryz.f7 Rows.alarmReportsRow.domain false Rows.alarmReportsRow.laid ((lO pG os).forCall (λ_ _=>0) ⟨#[],#[.string ⟨#[]⟩],[]⟩).memory #[.string ⟨#[]⟩]:=by
 have hw:(DataW.whole enc pG ((lO pG os).forCall (λ_ _=>0) ⟨#[],#[.string ⟨#[]⟩],[]⟩).memory Tryz.f7.params.toList Rows.alarmReportsSpec.vars false #[Value.string ⟨#[]⟩].toList 8).isSome=true:=by kernel_rfl
 obtain⟨x,hx⟩:=Option.isSome_iff_exists.1 hw;exact OpenSpec.preRow_of_cond 8 hx rfl (λk hk=>by cases hk) (by kernel_rfl) (Sv os _)

theorem lifted (os:Os)(started:os.Started)(H:Type)(enc:TypeId×Value->H)(F:Stop.Interp):
  ReturnsInHanded {} Tryz.checked os 7 .any ((OpenSpec.ofChange Rows.alarmReportsSpec).preRow enc pG Tryz.f7 Rows.alarmReportsRow.domain false Rows.alarmReportsRow.laid) (((OpenSpec.ofChange Rows.alarmReportsSpec).at F).post enc pG Tryz.f7 false true false false):=by
 refine returnsInHanded_of_row (C:=Tryz.checked) (s:=OpenSpec.ofChange Rows.alarmReportsSpec) own started (by kernel_rfl) Tryz.func7
  (witness_row_atRef (enc:=enc) (C:=Tryz.checked) false (lO pG os) #[.string ⟨#[]⟩] rfl (by kernel_rfl) (by kernel_rfl) (by kernel_rfl) (witness_row os enc)) ?_
 intro W base args ds gs before hval hW _ _ _ hL hS _;exact contract H enc W base args ds gs before hval hW hL hS

theorem and_t {a b:Bool}(h:a=true)(k:b=true):(a&&b)=true:=by rw[h,k];rfl
theorem closed:joinedFacts pG 7 Tryz.f7 (OpenSpec.ofChange Rows.alarmReportsSpec).bare Rows.alarmReportsRow=true:=by
 unfold joinedFacts;repeat' (with_reducible refine and_t ?_ ?_)
 all_goals (as_aux_lemma=>kernel_rfl)

theorem said:Rows.AlarmReportsSaid:=
 OpenClaim.holds_of_cond 7 Tryz.f7 rfl rfl rfl rfl rfl rfl rfl ⟨rfl,rfl,rfl,rfl,rfl⟩ rfl rfl rfl rfl rfl (by kernel_rfl) Tryz.func7 closed
  (of_decide_eq_true (by kernel_rfl)) (by unfold Func.isWrapper;first|(rw[if_pos (by decide+kernel)];kernel_rfl)|(rw[if_neg (by decide+kernel)];exact⟨rfl,rfl⟩))
  (λos started H enc _ F=>by rw[OpenClaim.pre_eq_preRow];exact lifted os started H enc F)

theorem plain (f:FuncId)(fn:Func)(hf:Tryz.pinned.checked.prog.funcNamed "soundings/soundingslaw.AlarmReports" =sO f)(hfn:Tryz.pinned.checked.prog.funcs[f]? =sO fn):
  true=Tryz.pinned.checked.prog.looks []/\∀(j:Nat) t,fn.params[j]? =sO t->Tryz.pinned.checked.prog.wantsStandIn t=false:=by
 obtain rfl:f=7:=j3.inj ((show Tryz.prog.funcNamed "soundings/soundingslaw.AlarmReports" =sO 7 by kernel_rfl).symm.trans hf) |>.symm;obtain rfl:fn=Tryz.f7:=(j3.inj (Tryz.func7.symm.trans hfn)).symm;refine⟨by kernel_rfl,λj t ht=> ?_⟩;rw[Tryz.params7] at ht;have hm:t=9:=by simpa using Array.mem_of_getElem? ht
 rcases hm with rfl;exact(show Tryz.prog.wantsStandIn 9=false by kernel_rfl)
end alarmReports

theorem alarmReports_holds:Rows.AlarmReportsCardSaid:=
 Claim7.holds_tied_plain_at .later [] _ _ _ _ alarmReports.said (λ_ h=>by cases h) (by kernel_rfl) (λ_ h=>by cases h) alarmReports_row_tie rfl ⟨rfl,rfl⟩ (by kernel_rfl) rfl alarmReports.plain (by kernel_rfl)
end
end Go.Proofs.YtmapdpcfanecdabGreatDoor
