import Derived.Test.YtmapdpcfanecdabGreatDoorM41
import Derived.Deep.CutBlock
open Go.Ending renaming returned→Rt
open Go.IntKind renaming i64→Y
open Go.Obj renaming cells→Cc
open Go.Proofs.Tryz renaming prog→pG
open Go.RowKit.Below renaming heap_setCell→hSe,refl→bR
open Go.Value renaming agg→Ag,bool→Bb,int→I,pointer→Pp,slice→U,tuple→Tu
open Go.World renaming cell?_setCell_other→j2,setCell→j0,size_alloc→zA
open List renaming getElem_mem→gM,length_take→j4,take_of_length_le→j5,zipWith→j1,zipWith_cons_cons→j3
open Nat renaming le_refl→lR,le_trans→lT
open Option renaming none→nO,some→sO
set_option linter.unusedSimpArgs false
set_option linter.unusedVariables false
set_option maxHeartbeats 8000000
set_option maxRecDepth 10000
namespace Go.Proofs.YtmapdpcfanecdabGreatDoor
section
open Go.RowKit Go
attribute [local go_sem ↓] Go.wp_at_zero Go.wp_at_succ
theorem X3.put0 {w:World}{b:Nat}{x0 x1 x2:Value}(h:X3 w b x0 x1 x2)(y:Value):X3 (w.setCell ⟨b,0,nO⟩ y) b y x1 x2:=by
 obtain⟨⟨h0,h1,h2⟩,h6,h7⟩:=h
 exact⟨⟨World.cell?_setCell_same _ _ _ h0,by rw[j2 _ _ _ _ (by intro e;cases e)];exact h1,by rw[j2 _ _ _ _ (by intro e;cases e)];exact h2⟩,by simpa[j0] using h6,λj=>by rw[World.frozen?_setCell];exact h7 j⟩
def kg (B:Nat)(w':World)(e:Ending)(x:Pic)(er:Int):Prop:=∃vs vc fs fc,e=Rt (Tu #[Ag #[Bb x.none,U vs x.vars.length vc,U fs x.flds.length fc],I Y er])∧PicOn (λb=>B≤b) w' x vs fs∧(x.vars.length≤vc∧vc≤maxLen)∧(x.flds.length≤fc∧fc≤maxLen)
theorem PicS.weak {B:Nat}{w':World}{e:Ending}{x:Pic}{er:Int}(h:PicS B w' e x er):kg B w' e x er:=by
 obtain⟨v,fs,fc,L,hx,rfl,h1⟩:=h
 have l1:x.vars.length=v.l.length:=by rw[hx];simp[bP,roG]
 have l2:x.flds.length=L.length:=by rw[hx];simp[bP]
 have k1:=h1.vcap x.none
 have k2:=h1.fcap' x.none
 have ho:=h1.on x.none
 rw[←hx] at k1 k2 ho
 exact⟨v.rs,v.rc,fs,fc,by rw[l1,l2],ho.mono λb hb _=>hb.elim id id,k1,k2⟩
def vF (V F:Int)(c:List Ins)(w:World)(x:Pic)(vs:Option Addr)(vc:Nat)(fs:Option Addr)(fc:Nat):Prop:=
 PicAt w x vs fs∧(x.vars.length≤vc∧vc≤maxLen)∧(x.flds.length≤fc∧fc≤maxLen)∧aK V F c x=0
def Sw (x y px py:Pic):Prop:=(x.none=true∧px=y∧py=y)∨(x.none=false∧y.none=true∧px=x∧py=x)∨(x.none=false∧y.none=false∧px=x∧py=y)
theorem Sw.none {x y px py:Pic}(h:Sw x y px py):px.none=py.none:=by
 rcases h with⟨_,rfl,rfl⟩|⟨_,_,rfl,rfl⟩|⟨h1,h2,rfl,rfl⟩
 ·rfl
 ·rfl
 ·rw[h1,h2]
theorem D5 {V F:Int}{c:List Ins}{px py:Pic}(h0:ai V F c=0)(hx:aK V F c px=0)(hy:aK V F c py=0)(hn:px.none=py.none):px.vars.length=py.vars.length∧px.vars.length≤1000∧px.flds.length=py.flds.length∧px.flds.length≤60∧(∀g∈px.vars,aC c g=0)∧(∀g∈py.vars,aC c g=0)∧∀k (h1:k < px.flds.length) (h2:k < py.flds.length),px.flds[k].length=py.flds[k].length∧px.flds[k].length≤1000∧(∀g∈px.flds[k],aC c g=0)∧∀g∈py.flds[k],aC c g=0:=by
 obtain⟨⟨_,_⟩,⟨_,_⟩,h60⟩:=bM h0
 cases hp:px.none with
 |true=>
  have hq:py.none=true:=by rw[←hn,hp]
  have fx:bG V F c px=true:=by
   unfold aK at hx
   split at hx
   ·cases hx
   ·rename_i hq;simpa using hq
  have fy:bG V F c py=true:=by
   unfold aK at hy
   split at hy
   ·cases hy
   ·rename_i hq;simpa using hq
  unfold bG at fx fy
  simp only[hp,hq,if_true,Bool.and_eq_true,decide_eq_true_eq,List.length_eq_zero_iff] at fx fy
  obtain⟨x1,x2⟩:=fx
  obtain⟨y1,y2⟩:=fy
  refine⟨by simp[x1,y1],by simp[x1],by simp[x2,y2],by simp[x2],by simp[x1],by simp[y1],λk h1 _=>absurd h1 (by simp[x2])⟩
 |false=>
  have hq:py.none=false:=by rw[←hn,hp]
  obtain⟨a1,a2,a3,a4,a5⟩:=kI hx hp
  obtain⟨b1,b2,b3,b4,b5⟩:=kI hy hq
  refine⟨by omega,by omega,by omega,by omega,a4,b4,λk h1 h2=> ?_⟩
  have m1:=gM h1
  have m2:=gM h2
  have:=a3 _ m1
  have:=b3 _ m2
  exact⟨by omega,by omega,a5 _ m1,b5 _ m2⟩
theorem nE {j:Gs→Gs→Gs}{l:List Gs}(h:∀g∈l,j g g=g):bh j l l=l:=by
 unfold bh
 induction l with
 |nil=>rfl
 |cons a l ih=>rw[j3,h a (by simp),ih (λg hg=>h g (by simp[hg]))]
theorem uL {j:Gs→Gs→Gs}{l:List (List Gs)}(h:∀r∈l,∀g∈r,j g g=g):j1 (bh j) l l=l:=by
 induction l with
 |nil=>rfl
 |cons a l ih=>rw[j3,nE (h a (by simp)),ih (λg hg=>h g (by simp[hg]))]
theorem GM {V F:Int}{c:List Ins}{j:Gs→Gs→Gs}{x y px py:Pic}(h0:ai V F c=0)(hx:aK V F c px=0)(hs:Sw x y px py)(hop:∀g,aC c g=0→j g g=g):aT j x y=⟨px.none,bh j px.vars py.vars,j1 (bh j) px.flds py.flds⟩:=by
 have hf:=D5 h0 hx hx rfl
 have e1:bh j px.vars px.vars=px.vars:=nE λg hg=>hop g (hf.2.2.2.2.1 g hg)
 have e2:j1 (bh j) px.flds px.flds=px.flds:=uL λr hr g hg=>by
  obtain⟨k,hk,rfl⟩:=List.getElem_of_mem hr
  exact hop g ((hf.2.2.2.2.2.2 k hk hk).2.2.1 g hg)
 unfold aT
 rcases hs with⟨h1,rfl,rfl⟩|⟨h1,h2,rfl,rfl⟩|⟨h1,h2,rfl,rfl⟩
 ·rw[if_pos h1,e1,e2]
 ·rw[if_neg (by rw[h1];decide),if_pos h2,e1,e2]
 ·rw[if_neg (by rw[h1];decide),if_neg (by rw[h2];decide),h1]

theorem lA (fh:Nat)(jn:Gs→Gs→Gs)(hfh:∀args wx,Sem.run pG (callFunc fh args) wx=.ok (.enter fh args) wx)(V F:Int)(s:Option Addr)(c:List Ins)(cap:Nat)(x:Pic)(vs1:Option Addr)(vc1:Nat)(fs1:Option Addr)(fc1:Nat)(y:Pic)(vs2:Option Addr)(vc2:Nat)(fs2:Option Addr)(fc2:Nat)(w:World)(hcd:CodeAt w s c)(hx:PicAt w x vs1 fs1)(h1:x.vars.length≤vc1∧vc1≤maxLen)(h2:x.flds.length≤fc1∧fc1≤maxLen)(hy:PicAt w y vs2 fs2)(h3:y.vars.length≤vc2∧vc2≤maxLen)(h4:y.flds.length≤fc2∧fc2≤maxLen)(h:aJ V F c [x,y]=0)(hcx:aK V F c x=0)(hcy:aK V F c y=0)(h0:ai V F c=0)(hop:∀g,aC c g=0→jn g g=g)(hJ:∀(g:Gs) (ss:Option Addr) (gc:Nat) (h:Gs) (st:Option Addr) (hc:Nat) (wx:World),CodeAt wx s c→IntsAt wx ss g.s→g.s.length≤gc→gc≤maxLen→IntsAt wx st h.s→h.s.length≤hc→hc≤maxLen→aC c g=0→aC c h=0→Calls pG fh #[pv V F s c cap,gv g ss gc,gv h st hc] wx λe w'=>(∃js jc,e=Rt (Tu #[gv (jn g h) js jc,I Y 0])∧IntsAt w' js (jn g h).s∧(jn g h).s.length≤jc∧jc≤maxLen∧∀a,js=sO a→wx.heap.size≤a.block)∧Below wx.heap.size wx w'):
  Calls pG 71 #[pv V F s c cap,xv x vs1 vc1 fs1 fc1,xv y vs2 vc2 fs2 fc2,.func (.func fh) #[] #[]] w λe w'=>PicS w.heap.size w' e (aT jn x y) 0∧Below w.heap.size w w':=by
 have B0:Below w.heap.size w ((((w.alloc (Cc #[I Y V,I Y F,U s c.length cap] 24)).alloc (Cc #[Bb x.none,U vs1 x.vars.length vc1,U fs1 x.flds.length fc1] 28)).alloc (Cc #[Bb y.none,U vs2 y.vars.length vc2,U fs2 y.flds.length fc2] 28)).alloc (Cc #[Bb false,U nO 0 0,U nO 0 0] 28)):=by go_grown
 have P0:=(PrAt.new w V F s c cap).call (w':=((((w.alloc (Cc #[I Y V,I Y F,U s c.length cap] 24)).alloc (Cc #[Bb x.none,U vs1 x.vars.length vc1,U fs1 x.flds.length fc1] 28)).alloc (Cc #[Bb y.none,U vs2 y.vars.length vc2,U fs2 y.flds.length fc2] 28)).alloc (Cc #[Bb false,U nO 0 0,U nO 0 0] 28))) (by go_grown)
 have X0:=(XAt.new (w.alloc (Cc #[I Y V,I Y F,U s c.length cap] 24)) x vs1 vc1 fs1 fc1).call (w':=((((w.alloc (Cc #[I Y V,I Y F,U s c.length cap] 24)).alloc (Cc #[Bb x.none,U vs1 x.vars.length vc1,U fs1 x.flds.length fc1] 28)).alloc (Cc #[Bb y.none,U vs2 y.vars.length vc2,U fs2 y.flds.length fc2] 28)).alloc (Cc #[Bb false,U nO 0 0,U nO 0 0] 28))) (by go_grown)
 have Y0:=(XAt.new ((w.alloc (Cc #[I Y V,I Y F,U s c.length cap] 24)).alloc (Cc #[Bb x.none,U vs1 x.vars.length vc1,U fs1 x.flds.length fc1] 28)) y vs2 vc2 fs2 fc2).call (w':=((((w.alloc (Cc #[I Y V,I Y F,U s c.length cap] 24)).alloc (Cc #[Bb x.none,U vs1 x.vars.length vc1,U fs1 x.flds.length fc1] 28)).alloc (Cc #[Bb y.none,U vs2 y.vars.length vc2,U fs2 y.flds.length fc2] 28)).alloc (Cc #[Bb false,U nO 0 0,U nO 0 0] 28))) (by go_grown)
 have Z0:=X3.new (((w.alloc (Cc #[I Y V,I Y F,U s c.length cap] 24)).alloc (Cc #[Bb x.none,U vs1 x.vars.length vc1,U fs1 x.flds.length fc1] 28)).alloc (Cc #[Bb y.none,U vs2 y.vars.length vc2,U fs2 y.flds.length fc2] 28)) 28 (Bb false) (U nO 0 0) (U nO 0 0)
 rw[zA] at X0
 rw[zA,zA] at Y0
 rw[zA,zA,zA] at Z0
 have C0:=hcd.below B0 (lR _)
 have PX:=hx.below B0 (lR _)
 have PY:=hy.below B0 (lR _)
 have HC:=aa (eS V F s c cap (sO ⟨((((w.alloc (Cc #[I Y V,I Y F,U s c.length cap] 24)).alloc (Cc #[Bb x.none,U vs1 x.vars.length vc1,U fs1 x.flds.length fc1] 28)).alloc (Cc #[Bb y.none,U vs2 y.vars.length vc2,U fs2 y.flds.length fc2] 28)).alloc (Cc #[Bb false,U nO 0 0,U nO 0 0] 28)).heap.size,0,nO⟩) [x,y] 2 (((((w.alloc (Cc #[I Y V,I Y F,U s c.length cap] 24)).alloc (Cc #[Bb x.none,U vs1 x.vars.length vc1,U fs1 x.flds.length fc1] 28)).alloc (Cc #[Bb y.none,U vs2 y.vars.length vc2,U fs2 y.flds.length fc2] 28)).alloc (Cc #[Bb false,U nO 0 0,U nO 0 0] 28)).alloc (Cc #[Bb x.none,U vs1 x.vars.length vc1,U fs1 x.flds.length fc1,Bb y.none,U vs2 y.vars.length vc2,U fs2 y.flds.length fc2] 28)) (C0.call (by go_grown)) (XsAt.new2 ((((w.alloc (Cc #[I Y V,I Y F,U s c.length cap] 24)).alloc (Cc #[Bb x.none,U vs1 x.vars.length vc1,U fs1 x.flds.length fc1] 28)).alloc (Cc #[Bb y.none,U vs2 y.vars.length vc2,U fs2 y.flds.length fc2] 28)).alloc (Cc #[Bb false,U nO 0 0,U nO 0 0] 28)) x vs1 vc1 fs1 fc1 y vs2 vc2 fs2 fc2 PX h1 h2 PY h3 h4) (by simp))
 have hbz:Below ((((w.alloc (Cc #[I Y V,I Y F,U s c.length cap] 24)).alloc (Cc #[Bb x.none,U vs1 x.vars.length vc1,U fs1 x.flds.length fc1] 28)).alloc (Cc #[Bb y.none,U vs2 y.vars.length vc2,U fs2 y.flds.length fc2] 28)).alloc (Cc #[Bb false,U nO 0 0,U nO 0 0] 28)).heap.size ((((w.alloc (Cc #[I Y V,I Y F,U s c.length cap] 24)).alloc (Cc #[Bb x.none,U vs1 x.vars.length vc1,U fs1 x.flds.length fc1] 28)).alloc (Cc #[Bb y.none,U vs2 y.vars.length vc2,U fs2 y.flds.length fc2] 28)).alloc (Cc #[Bb false,U nO 0 0,U nO 0 0] 28)) (((((w.alloc (Cc #[I Y V,I Y F,U s c.length cap] 24)).alloc (Cc #[Bb x.none,U vs1 x.vars.length vc1,U fs1 x.flds.length fc1] 28)).alloc (Cc #[Bb y.none,U vs2 y.vars.length vc2,U fs2 y.flds.length fc2] 28)).alloc (Cc #[Bb false,U nO 0 0,U nO 0 0] 28)).alloc (Cc #[Bb x.none,U vs1 x.vars.length vc1,U fs1 x.flds.length fc1,Bb y.none,U vs2 y.vars.length vc2,U fs2 y.flds.length fc2] 28)):=by go_grown
 have e3:((((w.alloc (Cc #[I Y V,I Y F,U s c.length cap] 24)).alloc (Cc #[Bb x.none,U vs1 x.vars.length vc1,U fs1 x.flds.length fc1] 28)).alloc (Cc #[Bb y.none,U vs2 y.vars.length vc2,U fs2 y.flds.length fc2] 28)).alloc (Cc #[Bb false,U nO 0 0,U nO 0 0] 28)).heap.size=w.heap.size+1+1+1+1:=by simp
 have HB:=aa hbz
 have GX:vF V F c w x vs1 vc1 fs1 fc1:=⟨hx,h1,h2,hcx⟩
 have GY:vF V F c w y vs2 vc2 fs2 fc2:=⟨hy,h3,h4,hcy⟩
 rw[h,e3] at HC
 have HG:=aa (And.intro GX GY)
 have HTG:Hid (∀(a b:List Gs) (ra:Option Addr) (rac:Nat) (rb:Option Addr) (rbc:Nat) (wx:World),CodeAt wx s c→GsAt wx ra a→GsAt wx rb b→a.length=b.length→a.length≤1000→(∀g∈a,aC c g=0)→(∀g∈b,aC c g=0)→Calls pG 122 #[pv V F s c cap,U ra a.length rac,U rb b.length rbc,.func (.func fh) #[] #[]] wx λe w'=>Be wx w' e (bh jn a b)∧Below wx.heap.size wx w'):=λa b ra rac rb rbc wx k1 k2 k3 k4 k5 k6 k7=>rV fh jn hfh V F s c cap a b ra rac rb rbc wx k1 k2 k3 k4 k5 h0 k6 k7 hop hJ
 clear hJ
 clear h hx hy PX PY hbz GX GY hcx hcy
 go_enter Tryz.func71,Tryz.ntmps71
 go_wp2_with (go_at_call 43;fail)
 refine HC.out.mono ?_
 rintro e w1 ⟨rfl,hb1⟩
 have hb01:Below ((((w.alloc (Cc #[I Y V,I Y F,U s c.length cap] 24)).alloc (Cc #[Bb x.none,U vs1 x.vars.length vc1,U fs1 x.flds.length fc1] 28)).alloc (Cc #[Bb y.none,U vs2 y.vars.length vc2,U fs2 y.flds.length fc2] 28)).alloc (Cc #[Bb false,U nO 0 0,U nO 0 0] 28)).heap.size ((((w.alloc (Cc #[I Y V,I Y F,U s c.length cap] 24)).alloc (Cc #[Bb x.none,U vs1 x.vars.length vc1,U fs1 x.flds.length fc1] 28)).alloc (Cc #[Bb y.none,U vs2 y.vars.length vc2,U fs2 y.flds.length fc2] 28)).alloc (Cc #[Bb false,U nO 0 0,U nO 0 0] 28)) w1:=HB.out.trans (hb1.mono (by first|exact HB.out.size|(simp;omega)|omega))
 have Z1:=Z0.call hb01
 have X1:=X0.call hb01
 have Y1:=Y0.call hb01
 have P1:=P0.call hb01
 have B1:=B0.trans (hb01.mono B0.size)
 have z1:w.heap.size+1+1+1+1≤w1.heap.size:=by have:=hb01.size;omega
 clear HB hb1 hb01 B0 Z0 X0 Y0 P0 C0 HC e3
 obtain⟨⟨a0,a1,a2⟩,az,af⟩:=id X1
 obtain⟨⟨b0,b1,b2⟩,bz,bf⟩:=id Y1
 have a3:=af 0
 have a4:=af 1
 have a5:=af 2
 have b3:=bf 0
 have b4:=bf 1
 have b5:=bf 2
 clear af bf
 go_upto_block 0 with fail
 go_cut [] (λwy=>∃px us1 uc1 gs1 gc1 py us2 uc2 gs2 gc2,XAt wy (w.heap.size+1) px us1 uc1 gs1 gc1∧XAt wy (w.heap.size+1+1) py us2 uc2 gs2 gc2∧Below w.heap.size w wy∧PrAt wy w.heap.size V F s c cap∧X3 wy (w.heap.size+1+1+1) (Bb false) (U nO 0 0) (U nO 0 0)∧w.heap.size+1+1+1+1≤wy.heap.size∧vF V F c w px us1 uc1 gs1 gc1∧vF V F c w py us2 uc2 gs2 gc2∧Sw x y px py)
 case first=>
  cases hn:x.none with
  |true=>
   rw[hn] at a0
   go_wp2_with fail
   go_meet
   have X1':X3 w1 (w.heap.size+1) _ _ _:=X1
   have Y1':X3 w1 (w.heap.size+1+1) _ _ _:=Y1
   exact⟨y,vs2,vc2,fs2,fc2,y,vs2,vc2,fs2,fc2,((X1'.put0 _).put1 _).put2 _,((Y1'.far (by simp only;omega) _).far (by simp only;omega) _).far (by simp only;omega) _,((B1.setCell (by simp only;omega) _).setCell (by simp only;omega) _).setCell (by simp only;omega) _,((P1.far (by simp only;omega) _).far (by simp only;omega) _).far (by simp only;omega) _,((Z1.far (by simp only;omega) _).far (by simp only;omega) _).far (by simp only;omega) _,by simpa[j0] using z1,HG.out.2,HG.out.2,Or.inl ⟨hn,rfl,rfl⟩⟩
  |false=>
   rw[hn] at a0
   cases hm:y.none with
   |true=>
    rw[hm] at b0
    go_wp2_with fail
    go_meet
    have X1':X3 w1 (w.heap.size+1) _ _ _:=X1
    have Y1':X3 w1 (w.heap.size+1+1) _ _ _:=Y1
    exact⟨x,vs1,vc1,fs1,fc1,x,vs1,vc1,fs1,fc1,((X1'.far (by simp only;omega) _).far (by simp only;omega) _).far (by simp only;omega) _,by unfold XAt;rw[hn];exact((Y1'.put0 _).put1 _).put2 _,((B1.setCell (by simp only;omega) _).setCell (by simp only;omega) _).setCell (by simp only;omega) _,((P1.far (by simp only;omega) _).far (by simp only;omega) _).far (by simp only;omega) _,((Z1.far (by simp only;omega) _).far (by simp only;omega) _).far (by simp only;omega) _,by simpa[j0] using z1,HG.out.1,HG.out.1,Or.inr (Or.inl ⟨hn,hm,rfl,rfl⟩)⟩
   |false=>
    rw[hm] at b0
    go_wp2_with fail
    go_meet
    exact⟨x,vs1,vc1,fs1,fc1,y,vs2,vc2,fs2,fc2,X1,Y1,B1,P1,Z1,z1,HG.out.1,HG.out.2,Or.inr (Or.inr ⟨hn,hm,rfl,rfl⟩)⟩
 obtain⟨px,us1,uc1,gs1,gc1,py,us2,uc2,gs2,gc2,X2,Y2,B2,P2,Z2,z2,GPX,GPY,SW⟩:=hcut
 generalize wc=w2 at *
 have FIT:=aa (D5 h0 GPX.2.2.2 GPY.2.2.2 SW.none)
 have HRT:Hid (∀wx,Below w2.heap.size w2 wx→Calls pG 122 #[pv V F s c cap,U us1 px.vars.length uc1,U us2 py.vars.length uc2,.func (.func fh) #[] #[]] wx λe w'=>Be wx w' e (bh jn px.vars py.vars)∧Below wx.heap.size wx w'):=λwx hx=>HTG.out px.vars py.vars us1 uc1 us2 uc2 wx (hcd.below (B2.trans (hx.mono B2.size)) (lR _)) (GPX.1.1.below (B2.trans (hx.mono B2.size)) (lR _)) (GPY.1.1.below (B2.trans (hx.mono B2.size)) (lR _)) FIT.out.1 FIT.out.2.1 FIT.out.2.2.2.2.1 FIT.out.2.2.2.2.2.1
 have HJP:=aa (GM h0 GPX.2.2.2 SW hop)
 generalize bh jn px.vars py.vars=VL at HRT HJP
 clear a0 a1 a2 a3 a4 a5 b0 b1 b2 b3 b4 b5 az bz X1 Y1 Z1 P1 B1 z1
 have KS:∀wx,Below w2.heap.size w2 wx→(wx.cell? ⟨w.heap.size,0,nO⟩=sO (I Y V)∧wx.cell? ⟨w.heap.size,1,nO⟩=sO (I Y F)∧wx.cell? ⟨w.heap.size,2,nO⟩=sO (U s c.length cap))∧(wx.cell? ⟨w.heap.size+1,0,nO⟩=sO (Bb px.none)∧wx.cell? ⟨w.heap.size+1,1,nO⟩=sO (U us1 px.vars.length uc1))∧wx.cell? ⟨w.heap.size+1+1,1,nO⟩=sO (U us2 py.vars.length uc2):=λwx hx=>by
  obtain⟨⟨p0,p1,p2⟩,-⟩:=P2.call hx
  obtain⟨⟨a0,a1,-⟩,-⟩:=X2.call hx
  obtain⟨⟨-,b1,-⟩,-⟩:=Y2.call hx
  exact⟨⟨p0,p1,p2⟩,⟨a0,a1⟩,b1⟩
 go_upto_region 8 with fail
 go_cut [11] (λp11 wy=>∃(zb:Nat) (vs:Option Addr) (vc:Nat) (vl:List Gc),p11=Pp (sO ⟨zb,0,nO⟩)∧X3 wy zb (Bb px.none) (U vs vl.length vc) (U nO 0 0)∧VRow (λb=>w2.heap.size≤b∧b≠zb) wy w2.heap.size (U vs vl.length vc) vl∧Hid (vl.map Gc.g=VL)∧w2.heap.size≤zb∧Below w2.heap.size w2 wy)
 case first=>
  rename_i J1 K1' hJ1 hK1
  refine au (S:=λwx=>(wx.cell? ⟨w.heap.size,0,nO⟩=sO (I Y V)∧wx.cell? ⟨w.heap.size,1,nO⟩=sO (I Y F)∧wx.cell? ⟨w.heap.size,2,nO⟩=sO (U s c.length cap))∧(wx.cell? ⟨w.heap.size+1,0,nO⟩=sO (Bb px.none)∧wx.cell? ⟨w.heap.size+1,1,nO⟩=sO (U us1 px.vars.length uc1))∧wx.cell? ⟨w.heap.size+1+1,1,nO⟩=sO (U us2 py.vars.length uc2)) [11] (by kernel_rfl) (KS _ (bR _ _).drew) (λhHeld=> ?_)
  have HB0:Below w2.heap.size w2 w2.drew:=(bR _ _).drew
  have hzd:w2.drew.heap.size=w2.heap.size:=rfl
  generalize w2.drew=wq at *
  refine vZ 0 ?_ ?_
  refine vZ 1 ?_ ?_
  refine vZ 2 ?_ ?_
  refine vZ 3 ?_ ?_
  refine vZ 4 ?_ ?_
  refine vZ 5 ?_ ?_
  refine vZ 6 ?_ ?_
  refine vZ 7 ?_ ?_
  refine mS (i:=8) (j:=10) rfl rfl (by kernel_rfl) (λK hK=> ?_) (λK hK=> ?_)
  case refine_1=>
   go_simp
   go_at_call 122
   refine(HRT.out wq HB0).mono ?_
   rintro e w5 ⟨⟨vs,vc,vl,rfl,EV,SV⟩,hb5⟩
   have GV:=SV.vrow
   clear SV
   have HB5:Below w2.heap.size w2 w5:=HB0.trans (hb5.mono HB0.size)
   go_wp2_with fail
   refine hK.out _ _ (KS _ HB5) (λhHeld=> ?_)
   clear hK K
   refine sm ?_
   refine vZ 9 ?_ ?_
   refine an (i:=10) rfl (by kernel_rfl) (λK hK=> ?_)
   go_simp
   have HB6:Below w2.heap.size w2 (w5.alloc (Cc #[Bb false,U nO 0 0,U nO 0 0] 28)):=HB5.alloc HB5.size _
   refine hK.out _ _ (KS _ HB6) (λhHeld=> ?_)
   clear hK K
   refine sm ?_
   refine aL (i:=11) rfl (by kernel_rfl) (by kernel_rfl) (λK hK=> ?_)
   go_simp
   refine hK.out _ _ ?_
   clear hK K
   refine sm ?_
   refine aq (by kernel_rfl) ?_ _
   refine hK1 _ _ (Met.intro (hJ1 _ _ ?_))
   (repeat apply Exists.intro)
   refine⟨?_,rfl⟩
   exact⟨w5.heap.size,vs,vc,vl,rfl,X3.new w5 _ _ _ _,((GV.mono (λb h1 h2=>⟨lT HB0.size h1,Nat.ne_of_lt h2⟩)).lower HB0.size).call (Below.alloc (bR _ _) (lR _) _),EV,HB5.size,HB5.alloc HB5.size _⟩
  case refine_2=>
   go_simp
   have HB1:Below w2.heap.size w2 (wq.alloc (Cc #[Bb false,U nO 0 0,U nO 0 0] 28)):=HB0.alloc HB0.size _
   have U1:=X3.new wq 28 (Bb false) (U nO 0 0) (U nO 0 0)
   have hma:wq.heap.size < (wq.alloc (Cc #[Bb false,U nO 0 0,U nO 0 0] 28)).heap.size:=by simp
   rw[hzd] at U1 hma
   refine hK.out _ _ (KS _ HB1) (λhHeld=> ?_)
   clear hK K
   refine sm ?_
   generalize wq.alloc (Cc #[Bb false,U nO 0 0,U nO 0 0] 28)=wa at *
   refine an (i:=8) rfl (by kernel_rfl) (λK hK=> ?_)
   go_simp
   go_at_call 122
   refine(HRT.out wa HB1).mono ?_
   rintro e w5 ⟨⟨vs,vc,vl,rfl,EV,SV⟩,hb5⟩
   have GV:=SV.vrow
   clear SV
   have HB5:Below w2.heap.size w2 w5:=HB1.trans (hb5.mono HB1.size)
   go_wp2_with fail
   refine hK.out _ _ (KS _ HB5) (λhHeld=> ?_)
   clear hK K
   refine sm ?_
   have U5:=U1.call hb5
   obtain⟨⟨v0,v1,v2⟩,vz,vf⟩:=id U5
   have v3:=vf 0
   have v4:=vf 1
   have v5:=vf 2
   clear vf
   refine vZ 9 ?_ ?_
   refine aL (i:=11) rfl (by kernel_rfl) (by kernel_rfl) (λK hK=> ?_)
   go_simp
   refine hK.out _ _ ?_
   clear hK K
   refine sm ?_
   refine aq (by kernel_rfl) ?_ _
   refine hK1 _ _ (Met.intro (hJ1 _ _ ?_))
   (repeat apply Exists.intro)
   refine⟨?_,rfl⟩
   have GV':=(GV.mono (S':=λb=>w2.heap.size≤b∧b≠w2.heap.size) λb h1 _=>⟨by omega,by omega⟩).lower (C:=w2.heap.size) (by omega)
   exact⟨w2.heap.size,vs,vc,vl,rfl,((U5.put0 _).put1 _).put2 _,GV'.same (λb hS _=>((hSe _ _ _ _ hS.2).trans (hSe _ _ _ _ hS.2)).trans (hSe _ _ _ _ hS.2)) (by simp[j0]),EV,lR _,((HB5.setCell (lR _) _).setCell (lR _) _).setCell (lR _) _⟩
 obtain⟨zb,vs,vc,vl,rfl,U3,GV0,EV,zz,hb3⟩:=hcut
 generalize wc=w3 at *
 have X3':=X2.call hb3
 have Y3':=Y2.call hb3
 have P3':=P2.call hb3
 have Z3':=Z2.call hb3
 have B3:=B2.trans (hb3.mono B2.size)
 have zN:zb < w3.heap.size:=U3.2.1
 have zn:w.heap.size+1+1+1+1≤zb:=by omega
 obtain⟨N,hN⟩:∃N,N=w3.heap.size:=⟨_,rfl⟩
 have GV:VRow (λb=>w.heap.size+1+1+1+1≤b∧b < N∧b≠zb) w3 (w.heap.size+1+1+1+1) (U vs vl.length vc) vl:=(GV0.mono λb h1 h2=>⟨by omega,by omega,h1.2⟩).lower (by omega)
 rw[←hN] at zN
 have hN':N≤w3.heap.size:=by omega
 clear GV0 KS HRT X2 Y2 P2 Z2 B2 hb3 z2 hN
 have LXF:px.flds.length=py.flds.length∧px.flds.length≤60:=⟨FIT.out.2.2.1,FIT.out.2.2.2.1⟩
 obtain⟨lxf,lx60⟩:=LXF
 have HXR:=aa GPX.1.2
 have HYR:=aa GPY.1.2
 obtain⟨tk,hk,hx0,hx1,hx2⟩:=info_parts Tryz.info_row
 obtain⟨⟨a0,a1,a2⟩,az,-⟩:=id X3'
 go_wp2
 clear a0 a1 a2 az
 go_loopw [43,12] (λi _ wr=>∃(k:Nat) (fs:Option Addr) (fc:Nat) (L:List Ro),k≤px.flds.length∧i=I Y k∧XAt wr (w.heap.size+1) px us1 uc1 gs1 gc1∧XAt wr (w.heap.size+1+1) py us2 uc2 gs2 gc2∧PrAt wr w.heap.size V F s c cap∧X3 wr (w.heap.size+1+1+1) (Bb false) (U nO 0 0) (U nO 0 0)∧X3 wr zb (Bb px.none) (U vs vl.length vc) (U fs L.length fc)∧FRowS wr N (U fs L.length fc) L∧Hid (L.map roG=j1 (bh jn) (px.flds.take k) (py.flds.take k))∧VRow (λb=>w.heap.size+1+1+1+1≤b∧b < N∧b≠zb) wr (w.heap.size+1+1+1+1) (U vs vl.length vc) vl∧Below w.heap.size w wr∧N≤wr.heap.size) (λi _ _=>px.flds.length - (intOf i).toNat)
 case atStart=>exact⟨0,nO,0,[],Nat.zero_le _,rfl,X3',Y3',P3',Z3',U3,FRowS.nil _ _,rfl,GV,B3,hN'⟩
 case round=>
  clear X3' Y3' P3' Z3' U3 GV B3 hN'
  obtain⟨k,fs,fc,L,hk1,rfl,XR,YR,PR,ZR,UR,FR,HL,GV,LR,zr⟩:=hrel
  have LL:Hid (L.length=k):=by
   show _=_
   have h1:=congrArg List.length HL.out
   rw[List.length_map,List.length_zipWith,j4,j4] at h1
   omega
  by_cases hlt:k < px.flds.length
  ·have n0:(0:Int)≤(k:Int):=by omega
   have n1:(k:Int) < (px.flds.length:Int):=by omega
   have hlt':k < py.flds.length:=by omega
   have n2:(k:Int) < (py.flds.length:Int):=by omega
   obtain⟨p1,q1,e1,zp1,r1,rc1,C1,k1,m1,J1⟩:=HXR.out k hlt
   obtain⟨p2,q2,e2,zp2,r2,rc2,C2,k2,m2,J2⟩:=HYR.out k hlt'
   subst e1 e2
   have hF:=FIT.out.2.2.2.2.2.2 k hlt hlt'
   have HRK:Hid (∀wx,Below w.heap.size w wx→Calls pG 122 #[pv V F s c cap,U r1 px.flds[k].length rc1,U r2 py.flds[k].length rc2,.func (.func fh) #[] #[]] wx λe w'=>Be wx w' e (bh jn px.flds[k] py.flds[k])∧Below wx.heap.size wx w'):=λwx hx=>HTG.out px.flds[k] py.flds[k] r1 rc1 r2 rc2 wx (hcd.below hx (lR _)) (J1.below hx (lR _)) (J2.below hx (lR _)) hF.1 hF.2.1 hF.2.2.1 hF.2.2.2
   obtain⟨⟨p0',p1',p2'⟩,pz⟩:=id PR
   obtain⟨⟨a0,a1,a2⟩,az,-⟩:=id XR
   obtain⟨⟨c0,c1,c2⟩,cz,-⟩:=id YR
   obtain⟨⟨y0,y1,y2⟩,yz,yf⟩:=id UR
   have D1:wr.cell? ⟨p1,q1+k,nO⟩=sO (U r1 px.flds[k].length rc1):=by rw[LR.cell (by simp only;exact zp1)];exact C1
   have D2:wr.cell? ⟨p2,q2+k,nO⟩=sO (U r2 py.flds[k].length rc2):=by rw[LR.cell (by simp only;exact zp2)];exact C2
   have HKZ:Hid (∀wx,Below N wr wx→(wx.cell? ⟨w.heap.size,0,nO⟩=sO (I Y V)∧wx.cell? ⟨w.heap.size,1,nO⟩=sO (I Y F)∧wx.cell? ⟨w.heap.size,2,nO⟩=sO (U s c.length cap))∧(wx.cell? ⟨w.heap.size+1,2,nO⟩=sO (U (sO ⟨p1,q1,nO⟩) px.flds.length gc1)∧wx.cell? ⟨p1,q1+k,nO⟩=sO (U r1 px.flds[k].length rc1))∧(wx.cell? ⟨w.heap.size+1+1,2,nO⟩=sO (U (sO ⟨p2,q2,nO⟩) py.flds.length gc2)∧wx.cell? ⟨p2,q2+k,nO⟩=sO (U r2 py.flds[k].length rc2))∧wx.cell? ⟨zb,2,nO⟩=sO (U fs L.length fc)):=λwx hx=>⟨⟨by rw[hx.cell (by simp only;omega)];exact p0',by rw[hx.cell (by simp only;omega)];exact p1',by rw[hx.cell (by simp only;omega)];exact p2'⟩,⟨by rw[hx.cell (by simp only;omega)];exact a2,by rw[hx.cell (by simp only;omega)];exact D1⟩,⟨by rw[hx.cell (by simp only;omega)];exact c2,by rw[hx.cell (by simp only;omega)];exact D2⟩,by rw[hx.cell (by simp only;omega)];exact y2⟩
   have HD:Below wr.heap.size wr wr.drew:=(bR _ _).drew
   clear hF C1 C2 J1 J2 k1 k2 m1 m2
   go_wp2
   clear a0 a1 a2 az c0 c1 c2 cz y0 y1 y2 yz yf p0' p1' p2' pz D1 D2
   refine au (S:=(λwx=>(wx.cell? ⟨w.heap.size,0,nO⟩=sO (I Y V)∧wx.cell? ⟨w.heap.size,1,nO⟩=sO (I Y F)∧wx.cell? ⟨w.heap.size,2,nO⟩=sO (U s c.length cap))∧(wx.cell? ⟨w.heap.size+1,2,nO⟩=sO (U (sO ⟨p1,q1,nO⟩) px.flds.length gc1)∧wx.cell? ⟨p1,q1+k,nO⟩=sO (U r1 px.flds[k].length rc1))∧(wx.cell? ⟨w.heap.size+1+1,2,nO⟩=sO (U (sO ⟨p2,q2,nO⟩) py.flds.length gc2)∧wx.cell? ⟨p2,q2+k,nO⟩=sO (U r2 py.flds[k].length rc2))∧wx.cell? ⟨zb,2,nO⟩=sO (U fs L.length fc))) [18] (by kernel_rfl) (HKZ.out _ (HD.mono zr)) (λhHeld=> ?_)
   refine vZ 0 ?_ ?_
   refine vZ 1 ?_ ?_
   refine vZ 2 ?_ ?_
   refine vZ 3 ?_ ?_
   refine vZ 4 ?_ ?_
   refine vZ 5 ?_ ?_
   refine vZ 6 ?_ ?_
   refine vZ 7 ?_ ?_
   refine vZ 8 ?_ ?_
   refine vZ 9 ?_ ?_
   refine vZ 10 ?_ ?_
   refine vZ 11 ?_ ?_
   refine vZ 12 ?_ ?_
   refine vZ 13 ?_ ?_
   refine an (i:=14) rfl (by kernel_rfl) (λK hK=> ?_)
   go_simp
   go_at_call 122
   refine(HRK.out _ (LR.trans (HD.mono LR.size))).mono ?_
   rintro e w5 ⟨⟨rs,rc,gl,rfl,ER,SR5⟩,hb5⟩
   have HW5:Below wr.heap.size wr w5:=HD.trans (hb5.mono HD.size)
   have HB5:Below N wr w5:=HW5.mono zr
   go_wp2_with fail
   refine hK.out _ _ (HKZ.out _ HB5) (λhHeld=> ?_)
   clear hK K
   refine sm ?_
   refine an (i:=15) rfl (by kernel_rfl) (λK hK=> ?_)
   go_simp
   have HW6:Below wr.heap.size wr (w5.alloc (Cc #[U rs gl.length rc] 25)):=HW5.alloc HW5.size _
   have HB6:Below N wr (w5.alloc (Cc #[U rs gl.length rc] 25)):=HW6.mono zr
   refine hK.out _ _ (HKZ.out _ HB6) (λhHeld=> ?_)
   clear hK K
   refine sm ?_
   refine an (i:=16) rfl (by kernel_rfl) (λK hK=> ?_)
   have F6:=FR.call HW6
   have VX:VRow (λb=>wr.heap.size≤b) (w5.alloc (Cc #[U rs gl.length rc] 25)) wr.heap.size (roV ⟨rs,rc,gl⟩) gl:=((SR5.vrow.mono λb h _=>lT HD.size h).lower HD.size).call (by go_grown)
   refine iq _ rfl _ _ 26 rfl N 25 tk (U nO 0 0) 1 24 Tryz.underlying26 hk hx0 hx1 hx2 rfl (by decide) _ _ _ rfl F6.own (sO ⟨w5.heap.size,0,nO⟩) 1 1 [U rs gl.length rc] rfl rfl (λh=>by cases h) (F9 w5 _ _) (by intro u hu;rw[List.mem_singleton.1 hu];rfl) (by unfold maxLen;have:=LL.out;omega) (by have:=LL.out;omega) (by rw[zA];have:=HW5.size;omega) ?_
   intro v' w7 hown hgrow hat
   have F7:=FR.grown HW6 zr (x:=⟨rs,rc,gl⟩) VX hown hgrow hat
   have HB7:Below N wr w7:=HB6.grown hgrow (by rw[zA];have:=HW5.size;omega) (λk hk=>(bo F6.own hk).2)
   obtain⟨fs',fc',rfl⟩:=F7.form
   refine hK.out _ _ (HKZ.out _ HB7) (λhHeld=> ?_)
   clear hK K hown hgrow hat F6 VX HB6 HW6 HB5 HW5 SR5
   refine sm ?_
   refine vZ 17 ?_ ?_
   refine aL (i:=18) rfl (by kernel_rfl) (by kernel_rfl) (λK hK=> ?_)
   have U7:X3 w7 zb _ _ _:=UR.same (HB7.block _ (by omega)) HB7.size
   obtain⟨⟨y0,y1,y2⟩,yz,yf⟩:=id U7
   have yf2:=yf 2
   clear yf
   go_simp
   refine hK.out _ _ ?_
   clear hK K
   refine sm ?_
   refine aq (by kernel_rfl) ?_ _
   clear y0 y1 y2 yz yf2
   have X7:XAt w7 (w.heap.size+1) px us1 uc1 _ gc1:=XR.same (HB7.block _ (by omega)) HB7.size
   have Y7:XAt w7 (w.heap.size+1+1) py us2 uc2 _ gc2:=YR.same (HB7.block _ (by omega)) HB7.size
   have P7:=PR.low HB7 (by omega)
   have Z7:X3 w7 (w.heap.size+1+1+1) (Bb false) (U nO 0 0) (U nO 0 0):=ZR.same (HB7.block _ (by omega)) HB7.size
   have V7:=GV.same (w':=w7) (λb hS _=>HB7.block b hS.2.1) HB7.size
   have L7:=LR.trans (HB7.mono (by omega))
   have z7:N≤w7.heap.size:=lT zr HB7.size
   have E7:Hid (∀(x:Value) b,b≠zb→(w7.setCell ⟨zb,2,nO⟩ x).heap[b]? =w7.heap[b]?):=λx b hb=>hSe _ _ _ _ hb
   have S7:Hid (∀(x:Value),w7.heap.size≤(w7.setCell ⟨zb,2,nO⟩ x).heap.size):=λx=>by simp[j0]
   clear XR YR PR ZR UR FR LR zr HKZ GV HB7
   go_wp2
   go_roundw
   case rel=>exact⟨k+1,fs',fc',L++[⟨rs,rc,gl⟩],by omega,by go_num,X7.same (E7.out _ _ (by omega)) (S7.out _),Y7.same (E7.out _ _ (by omega)) (S7.out _),P7.far (by simp only;omega) _,Z7.same (E7.out _ _ (by omega)) (S7.out _),by first|exact U7.put2 _|(rw[List.length_append];exact U7.put2 _),F7.olden (λb hb _=>E7.out _ b (by omega)) (S7.out _),by show _=_;rw[List.map_append,HL.out,vu _ px.flds py.flds k hlt hlt'];exact congrArg (λq=>_++[q]) ER.out,V7.same (λb hS _=>E7.out _ b hS.2.2) (S7.out _),L7.setCell (by simp only;omega) _,by simpa[j0] using z7⟩
   case measure=>simp[intOf];omega
  ·have n1':¬(k:Int) < (px.flds.length:Int):=by omega
   have et1:px.flds.take k=px.flds:=j5 (by omega)
   have et2:py.flds.take k=py.flds:=j5 (by omega)
   have hch:∀b,b≠w.heap.size+1+1+1→(((wr.setCell ⟨w.heap.size+1+1+1,0,nO⟩ (Bb px.none)).setCell ⟨w.heap.size+1+1+1,1,nO⟩ (U vs vl.length vc)).setCell ⟨w.heap.size+1+1+1,2,nO⟩ (U fs L.length fc)).heap[b]? =wr.heap[b]? :=λb hb=>by rw[hSe _ _ _ _ hb,hSe _ _ _ _ hb,hSe _ _ _ _ hb]
   have hcz:wr.heap.size≤(((wr.setCell ⟨w.heap.size+1+1+1,0,nO⟩ (Bb px.none)).setCell ⟨w.heap.size+1+1+1,1,nO⟩ (U vs vl.length vc)).setCell ⟨w.heap.size+1+1+1,2,nO⟩ (U fs L.length fc)).heap.size:=by simp[j0]
   have FX:=FR.olden (w':=(((wr.setCell ⟨w.heap.size+1+1+1,0,nO⟩ (Bb px.none)).setCell ⟨w.heap.size+1+1+1,1,nO⟩ (U vs vl.length vc)).setCell ⟨w.heap.size+1+1+1,2,nO⟩ (U fs L.length fc))) (λb hb _=>hch b (by omega)) hcz
   have GX:=GV.same (w':=(((wr.setCell ⟨w.heap.size+1+1+1,0,nO⟩ (Bb px.none)).setCell ⟨w.heap.size+1+1+1,1,nO⟩ (U vs vl.length vc)).setCell ⟨w.heap.size+1+1+1,2,nO⟩ (U fs L.length fc))) (λb hS _=>hch b (by omega)) hcz
   have BX:Below w.heap.size w (((wr.setCell ⟨w.heap.size+1+1+1,0,nO⟩ (Bb px.none)).setCell ⟨w.heap.size+1+1+1,1,nO⟩ (U vs vl.length vc)).setCell ⟨w.heap.size+1+1+1,2,nO⟩ (U fs L.length fc)):=((LR.setCell (by simp only;omega) _).setCell (by simp only;omega) _).setCell (by simp only;omega) _
   have HPX:Hid (PicG (λb=>w.heap.size≤b) w.heap.size (((wr.setCell ⟨w.heap.size+1+1+1,0,nO⟩ (Bb px.none)).setCell ⟨w.heap.size+1+1+1,1,nO⟩ (U vs vl.length vc)).setCell ⟨w.heap.size+1+1+1,2,nO⟩ (U fs L.length fc)) ⟨vs,vc,vl⟩ fs fc L):=((FX.pic GX (λb hb=>⟨hb.1,hb.2.1⟩) (by omega)).mono λb hb _=>by omega).down (by omega)
   have HJX:Hid (aT jn x y=bP (aT jn x y).none ⟨vs,vc,vl⟩ L):=by
    show _=_
    rw[HJP.out]
    have e1:=HL.out
    have e2:=EV.out
    rw[et1,et2] at e1
    simp only[bP,roG,e2]
    rw[←e1]
   have HJN:Hid ((aT jn x y).none=px.none):=by show _=_;rw[HJP.out]
   obtain⟨⟨y0,y1,y2⟩,yz,yf⟩:=id UR
   obtain⟨⟨d0,d1,d2⟩,dz,df⟩:=id ZR
   have f0:=df 0
   have f1:=df 1
   have f2:=df 2
   clear df yf hch hcz FX GX et1 et2
   go_wp2
   refine bodyPost_ret (v:=Tu #[Ag #[Bb px.none,U vs vl.length vc,U fs L.length fc],I Y 0]) (by simp[results,Tryz.results71,go_sem,d0,d1,d2]) rfl ⟨?_,BX⟩
   exact⟨⟨vs,vc,vl⟩,fs,fc,L,HJX.out,by rw[HJN.out],HPX.out⟩
end
end Go.Proofs.YtmapdpcfanecdabGreatDoor
