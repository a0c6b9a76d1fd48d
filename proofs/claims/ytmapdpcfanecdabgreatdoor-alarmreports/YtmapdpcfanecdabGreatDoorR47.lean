import Derived.Test.YtmapdpcfanecdabGreatDoorR36
import Derived.Shelf.Abstract
open Go.Ending renaming returned→Rt
open Go.IntKind renaming i64→Y
open Go.Obj renaming cells→Cc
open Go.Proofs.Tryz renaming prog→pG
open Go.RowKit.Below renaming heap_setCell→hSe,refl→bR
open Go.Value renaming agg→Ag,bool→Bb,int→I,pointer→Pp,slice→U,slice→j3,tuple→Tu
open Go.World renaming setCell→j7,size_alloc→zA
open Int renaming eq_ofNat_of_zero_le→x2
open List renaming append_nil→x0,cons_append→z8,ext_getElem→x9,ext_getElem?→x4,getElem?_modify→x6,getElem?_set→x5,getElem_map→x7,getElem_mem→gM,getElem_set_self→x8,getElem_zipWith→J0,length_replicate→J2,length_set→q7,map→j6,map_append→x1,map_set→j9,nil_append→q8,range→j2,replicate→j5,set_getElem_self→q9,take_succ_eq_append_getElem→x3
open Nat renaming le_of_lt→j8,le_refl→lR,le_trans→lT,lt_irrefl→z9,lt_of_lt_of_le→lL,zero_le→j4
open Option renaming none→nO,some→sO
set_option linter.unusedSimpArgs false
set_option linter.unusedVariables false
set_option maxHeartbeats 16000000
set_option maxRecDepth 100000
namespace Go.Proofs.YtmapdpcfanecdabGreatDoor
section
open Go.RowKit
attribute [local go_sem ↓] Go.wp_at_zero Go.wp_at_succ
theorem rk {V F:Int}{c:List Ins}{x y:Pic}(h:aK V F c [x,y]=0):ah V F c=0/\aF V F c x=0/\aF V F c y=0:=by
 have h0:ah V F c=0:=by
  unfold aK at h;split at h
  ·assumption
  ·exact h
 have hl:cj V F c [x,y]=0:=by
  unfold aK at h;rw[if_pos h0] at h;exact h
 have hcx:aF V F c x=0:=by
  unfold cj at hl;split at hl
  ·assumption
  ·exact hl
 refine⟨h0,hcx,?_⟩;unfold cj at hl;rw[if_pos hcx] at hl;unfold cj at hl;split at hl
 ·assumption
 ·exact hl
theorem rL {p:Prop}(h:p:=by
 rintro e w' ⟨v,rfl,hown,hb⟩;obtain⟨js,jc,rfl,hi,k1,k2,hf⟩:=IntsAt.own hown;exact⟨⟨js,jc,rfl,hi,k1,k2,hf⟩,hb⟩):p:=h
theorem mP {V F:Int}{s:oA}{c:List Ins}{cap:Nat}(h0:ah V F c=0):∀(g:Gs) (ss:oA) (gc:Nat) (h:Gs) (st:oA) (hc:Nat) (wx:World),CodeAt wx s c->IntsAt wx ss g.s->g.s.length<=gc->gc<=maxLen->IntsAt wx st h.s->h.s.length<=hc->hc<=maxLen->aq c g=0->aq c h=0->Calls pG 72 #[pv V F s c cap,gv g ss gc,gv h st hc] wx λe w'=>(∃js jc,e=Rt (Tu #[gv (cS aU g h) js jc,I Y 0])/\IntsAt w' js (cS aU g h).s/\(cS aU g h).s.length<=jc/\jc<=maxLen/\∀a,js=sO a->wx.heap.size<=a.block)/\Below wx.heap.size wx w':=by
 intro g ss gc h st hc wx hcd hs h1 h2 ht h3 h4 hg0 hh0;have hck:=gq h0 hg0 hh0;obtain⟨hg,hh⟩:=fP hck;have l1:=cy hg.2 hg.1;have l2:=cy hh.2 hh.1;refine(Gv V F s c cap g ss gc h st hc wx hcd hs h1 h2 ht h3 h4 hck (by simp;omega)).mono ?_;exact rL
theorem DV (V F:Int)(s:oA)(c:List Ins)(cap:Nat)(x:Pic)(vs1:oA)(vc1:Nat)(fs1:oA)(fc1:Nat)(y:Pic)(vs2:oA)(vc2:Nat)(fs2:oA)(fc2:Nat)(w:World)(hcd:CodeAt w s c)(hx:PicAt w x vs1 fs1)(h1:x.vars.length<=vc1/\vc1<=maxLen)(h2:x.flds.length<=fc1/\fc1<=maxLen)(hy:PicAt w y vs2 fs2)(h3:y.vars.length<=vc2/\vc2<=maxLen)(h4:y.flds.length<=fc2/\fc2<=maxLen):Calls pG 71 #[pv V F s c cap,xv x vs1 vc1 fs1 fc1,xv y vs2 vc2 fs2 fc2,.func (.func 72) #[] #[]] w λe w'=>PicS w.heap.size w' e (if aK V F c [x,y]=0 then aB (cS aU) x y else dn) (aK V F c [x,y])/\Below w.heap.size w w':=by
 by_cases h:aK V F c [x,y]=0
 ·obtain⟨h0,hcx,hcy⟩:=rk h
  rw[if_pos h,h];exact kq 72 (cS aU) (enters_of Tryz.func72 (by kernel_rfl) rfl) V F s c cap x vs1 vc1 fs1 fc1 y vs2 vc2 fs2 fc2 w hcd hx h1 h2 hy h3 h4 h hcx hcy h0 (λg hg=>vo y9 (bw h0).2.2 hg) (mP h0)
 ·rw[if_neg h]
  refine(kl 72 V F s c cap x vs1 vc1 fs1 fc1 y vs2 vc2 fs2 fc2 w hcd hx h1 h2 hy h3 h4 h).mono ?_;rintro e w1 ⟨rfl,hb⟩;exact⟨⟨⟨nO,0,[]⟩,nO,0,[],rfl,rfl,tW _ _⟩,hb⟩
theorem Dc (V F:Int)(s:oA)(c:List Ins)(cap:Nat)(x:Pic)(vs1:oA)(vc1:Nat)(fs1:oA)(fc1:Nat)(y:Pic)(vs2:oA)(vc2:Nat)(fs2:oA)(fc2:Nat)(w:World)(hcd:CodeAt w s c)(hx:PicAt w x vs1 fs1)(h1:x.vars.length<=vc1/\vc1<=maxLen)(h2:x.flds.length<=fc1/\fc1<=maxLen)(hy:PicAt w y vs2 fs2)(h3:y.vars.length<=vc2/\vc2<=maxLen)(h4:y.flds.length<=fc2/\fc2<=maxLen):Calls pG 32 #[pv V F s c cap,xv x vs1 vc1 fs1 fc1,xv y vs2 vc2 fs2 fc2] w λe w'=>PicS w.heap.size w' e (if aK V F c [x,y]=0 then aB (cS aU) x y else dn) (aK V F c [x,y])/\Below w.heap.size w w':=by
 have B0:Below w.heap.size w ((((w.alloc (Cc #[I Y V,I Y F,U s c.length cap] 24)).alloc (Cc #[Bb x.none,U vs1 x.vars.length vc1,U fs1 x.flds.length fc1] 28)).alloc (Cc #[Bb y.none,U vs2 y.vars.length vc2,U fs2 y.flds.length fc2] 28)).alloc (Cc #[Bb false,U nO 0 0,U nO 0 0] 28)):=by go_grown
 have Z0:=X3.new (((w.alloc (Cc #[I Y V,I Y F,U s c.length cap] 24)).alloc (Cc #[Bb x.none,U vs1 x.vars.length vc1,U fs1 x.flds.length fc1] 28)).alloc (Cc #[Bb y.none,U vs2 y.vars.length vc2,U fs2 y.flds.length fc2] 28)) 28 (Bb false) (U nO 0 0) (U nO 0 0);rw[zA,zA,zA] at Z0;have HT:=aa (DV V F s c cap x vs1 vc1 fs1 fc1 y vs2 vc2 fs2 fc2 ((((w.alloc (Cc #[I Y V,I Y F,U s c.length cap] 24)).alloc (Cc #[Bb x.none,U vs1 x.vars.length vc1,U fs1 x.flds.length fc1] 28)).alloc (Cc #[Bb y.none,U vs2 y.vars.length vc2,U fs2 y.flds.length fc2] 28)).alloc (Cc #[Bb false,U nO 0 0,U nO 0 0] 28)) (hcd.below B0 (lR _)) (hx.below B0 (lR _)) h1 h2 (hy.below B0 (lR _)) h3 h4);clear hcd hx hy;generalize (if aK V F c [x,y]=0 then aB (cS aU) x y else dn)=z at *;generalize aK V F c [x,y]=ce at *;go_enter Tryz.func32,Tryz.ntmps32;go_wp2_with (go_at_call 71;fail);refine HT.out.mono ?_;rintro e w1 ⟨⟨⟨us,uc,vl⟩,gs,gc,L,hZ,rfl,PV⟩,hb1⟩;have HZZ:=aa hZ;clear hZ;have Z1:=Z0.call hb1;have B1:=B0.trans (hb1.mono B0.size);clear HT hb1 B0 Z0;obtain⟨⟨z0,z1,z2⟩,zz,zf⟩:=id Z1;have f0:=zf 0;have f1:=zf 1;have f2:=zf 2;clear zf;have e3:((((w.alloc (Cc #[I Y V,I Y F,U s c.length cap] 24)).alloc (Cc #[Bb x.none,U vs1 x.vars.length vc1,U fs1 x.flds.length fc1] 28)).alloc (Cc #[Bb y.none,U vs2 y.vars.length vc2,U fs2 y.flds.length fc2] 28)).alloc (Cc #[Bb false,U nO 0 0,U nO 0 0] 28)).heap.size=w.heap.size+1+1+1+1:=by simp
 rw[e3] at PV;have HPV:=aa PV;clear PV e3;go_wp2;refine bodyPost_ret (v:=Tu #[Ag #[Bb z.none,U us vl.length uc,U gs L.length gc],I Y ce]) (by simp[results,Tryz.results32,go_sem,z0,z1,z2]) rfl ⟨⟨⟨us,uc,vl⟩,gs,gc,L,HZZ.out,rfl,((HPV.out.same (λb hb _=> ?_) (by simp[j7])).mono λb hb _=>by omega).down (by omega)⟩,?_⟩
 ·rw[hSe _ _ _ _ (by simp only;omega),hSe _ _ _ _ (by simp only;omega),hSe _ _ _ _ (by simp only;omega)]
 ·exact((B1.setCell (by simp only;omega) _).setCell (by simp only;omega) _).setCell (by simp only;omega) _
theorem Kz (V F:Int)(s:oA)(c:List Ins)(cap:Nat)(x:Pic)(vs1:oA)(vc1:Nat)(fs1:oA)(fc1:Nat)(y:Pic)(vs2:oA)(vc2:Nat)(fs2:oA)(fc2:Nat)(w:World)(hcd:CodeAt w s c)(hx:PicAt w x vs1 fs1)(h1:x.vars.length<=vc1/\vc1<=maxLen)(h2:x.flds.length<=fc1/\fc1<=maxLen)(hy:PicAt w y vs2 fs2)(h3:y.vars.length<=vc2/\vc2<=maxLen)(h4:y.flds.length<=fc2/\fc2<=maxLen):Calls pG 32 #[pv V F s c cap,xv x vs1 vc1 fs1 fc1,xv y vs2 vc2 fs2 fc2] w λe w'=>iF w.heap.size w' e (if aK V F c [x,y]=0 then aB (cS aU) x y else dn) (aK V F c [x,y])/\Below w.heap.size w w':=
 (Dc V F s c cap x vs1 vc1 fs1 fc1 y vs2 vc2 fs2 fc2 w hcd hx h1 h2 hy h3 h4).mono λe w' h=>⟨h.1.weak,h.2⟩
theorem DX {V F:Int}{s:oA}{c:List Ins}{cap:Nat}(h0:ah V F c=0):∀(g:Gs) (ss:oA) (gc:Nat) (h:Gs) (st:oA) (hc:Nat) (wx:World),CodeAt wx s c->IntsAt wx ss g.s->g.s.length<=gc->gc<=maxLen->IntsAt wx st h.s->h.s.length<=hc->hc<=maxLen->aq c g=0->aq c h=0->Calls pG 73 #[pv V F s c cap,gv g ss gc,gv h st hc] wx λe w'=>(∃js jc,e=Rt (Tu #[gv (cS aY g h) js jc,I Y 0])/\IntsAt w' js (cS aY g h).s/\(cS aY g h).s.length<=jc/\jc<=maxLen/\∀a,js=sO a->wx.heap.size<=a.block)/\Below wx.heap.size wx w':=by
 intro g ss gc h st hc wx hcd hs h1 h2 ht h3 h4 hg0 hh0;have hck:=gq h0 hg0 hh0;obtain⟨hg,hh⟩:=fP hck;have l1:=cy hg.2 hg.1;have l2:=cy hh.2 hh.1;refine(FO V F s c cap g ss gc h st hc wx hcd hs h1 h2 ht h3 h4 hck (by simp;omega)).mono ?_;exact rL
theorem CX (V F:Int)(s:oA)(c:List Ins)(cap:Nat)(x:Pic)(vs1:oA)(vc1:Nat)(fs1:oA)(fc1:Nat)(y:Pic)(vs2:oA)(vc2:Nat)(fs2:oA)(fc2:Nat)(w:World)(hcd:CodeAt w s c)(hx:PicAt w x vs1 fs1)(h1:x.vars.length<=vc1/\vc1<=maxLen)(h2:x.flds.length<=fc1/\fc1<=maxLen)(hy:PicAt w y vs2 fs2)(h3:y.vars.length<=vc2/\vc2<=maxLen)(h4:y.flds.length<=fc2/\fc2<=maxLen):Calls pG 71 #[pv V F s c cap,xv x vs1 vc1 fs1 fc1,xv y vs2 vc2 fs2 fc2,.func (.func 73) #[] #[]] w λe w'=>PicS w.heap.size w' e (if aK V F c [x,y]=0 then aB (cS aY) x y else dn) (aK V F c [x,y])/\Below w.heap.size w w':=by
 by_cases h:aK V F c [x,y]=0
 ·obtain⟨h0,hcx,hcy⟩:=rk h
  rw[if_pos h,h];exact kq 73 (cS aY) (enters_of Tryz.func73 (by kernel_rfl) rfl) V F s c cap x vs1 vc1 fs1 fc1 y vs2 vc2 fs2 fc2 w hcd hx h1 h2 hy h3 h4 h hcx hcy h0 (λg hg=>vo Aa (bw h0).2.2 hg) (DX h0)
 ·rw[if_neg h]
  refine(kl 73 V F s c cap x vs1 vc1 fs1 fc1 y vs2 vc2 fs2 fc2 w hcd hx h1 h2 hy h3 h4 h).mono ?_;rintro e w1 ⟨rfl,hb⟩;exact⟨⟨⟨nO,0,[]⟩,nO,0,[],rfl,rfl,tW _ _⟩,hb⟩
theorem Kd (V F:Int)(s:oA)(c:List Ins)(cap:Nat)(x:Pic)(vs1:oA)(vc1:Nat)(fs1:oA)(fc1:Nat)(y:Pic)(vs2:oA)(vc2:Nat)(fs2:oA)(fc2:Nat)(w:World)(hcd:CodeAt w s c)(hx:PicAt w x vs1 fs1)(h1:x.vars.length<=vc1/\vc1<=maxLen)(h2:x.flds.length<=fc1/\fc1<=maxLen)(hy:PicAt w y vs2 fs2)(h3:y.vars.length<=vc2/\vc2<=maxLen)(h4:y.flds.length<=fc2/\fc2<=maxLen):Calls pG 33 #[pv V F s c cap,xv x vs1 vc1 fs1 fc1,xv y vs2 vc2 fs2 fc2] w λe w'=>PicS w.heap.size w' e (if aK V F c [x,y]=0 then aB (cS aY) x y else dn) (aK V F c [x,y])/\Below w.heap.size w w':=by
 have B0:Below w.heap.size w ((((w.alloc (Cc #[I Y V,I Y F,U s c.length cap] 24)).alloc (Cc #[Bb x.none,U vs1 x.vars.length vc1,U fs1 x.flds.length fc1] 28)).alloc (Cc #[Bb y.none,U vs2 y.vars.length vc2,U fs2 y.flds.length fc2] 28)).alloc (Cc #[Bb false,U nO 0 0,U nO 0 0] 28)):=by go_grown
 have Z0:=X3.new (((w.alloc (Cc #[I Y V,I Y F,U s c.length cap] 24)).alloc (Cc #[Bb x.none,U vs1 x.vars.length vc1,U fs1 x.flds.length fc1] 28)).alloc (Cc #[Bb y.none,U vs2 y.vars.length vc2,U fs2 y.flds.length fc2] 28)) 28 (Bb false) (U nO 0 0) (U nO 0 0);rw[zA,zA,zA] at Z0;have HT:=aa (CX V F s c cap x vs1 vc1 fs1 fc1 y vs2 vc2 fs2 fc2 ((((w.alloc (Cc #[I Y V,I Y F,U s c.length cap] 24)).alloc (Cc #[Bb x.none,U vs1 x.vars.length vc1,U fs1 x.flds.length fc1] 28)).alloc (Cc #[Bb y.none,U vs2 y.vars.length vc2,U fs2 y.flds.length fc2] 28)).alloc (Cc #[Bb false,U nO 0 0,U nO 0 0] 28)) (hcd.below B0 (lR _)) (hx.below B0 (lR _)) h1 h2 (hy.below B0 (lR _)) h3 h4);clear hcd hx hy;generalize (if aK V F c [x,y]=0 then aB (cS aY) x y else dn)=z at *;generalize aK V F c [x,y]=ce at *;go_enter Tryz.func33,Tryz.ntmps33;go_wp2_with (go_at_call 71;fail);refine HT.out.mono ?_;rintro e w1 ⟨⟨⟨us,uc,vl⟩,gs,gc,L,hZ,rfl,PV⟩,hb1⟩;have HZZ:=aa hZ;clear hZ;have Z1:=Z0.call hb1;have B1:=B0.trans (hb1.mono B0.size);clear HT hb1 B0 Z0;obtain⟨⟨z0,z1,z2⟩,zz,zf⟩:=id Z1;have f0:=zf 0;have f1:=zf 1;have f2:=zf 2;clear zf;have e3:((((w.alloc (Cc #[I Y V,I Y F,U s c.length cap] 24)).alloc (Cc #[Bb x.none,U vs1 x.vars.length vc1,U fs1 x.flds.length fc1] 28)).alloc (Cc #[Bb y.none,U vs2 y.vars.length vc2,U fs2 y.flds.length fc2] 28)).alloc (Cc #[Bb false,U nO 0 0,U nO 0 0] 28)).heap.size=w.heap.size+1+1+1+1:=by simp
 rw[e3] at PV;have HPV:=aa PV;clear PV e3;go_wp2;refine bodyPost_ret (v:=Tu #[Ag #[Bb z.none,U us vl.length uc,U gs L.length gc],I Y ce]) (by simp[results,Tryz.results33,go_sem,z0,z1,z2]) rfl ⟨⟨⟨us,uc,vl⟩,gs,gc,L,HZZ.out,rfl,((HPV.out.same (λb hb _=> ?_) (by simp[j7])).mono λb hb _=>by omega).down (by omega)⟩,?_⟩
 ·rw[hSe _ _ _ _ (by simp only;omega),hSe _ _ _ _ (by simp only;omega),hSe _ _ _ _ (by simp only;omega)]
 ·exact((B1.setCell (by simp only;omega) _).setCell (by simp only;omega) _).setCell (by simp only;omega) _
theorem Kn (V F:Int)(s:oA)(c:List Ins)(cap:Nat)(x:Pic)(vs1:oA)(vc1:Nat)(fs1:oA)(fc1:Nat)(y:Pic)(vs2:oA)(vc2:Nat)(fs2:oA)(fc2:Nat)(w:World)(hcd:CodeAt w s c)(hx:PicAt w x vs1 fs1)(h1:x.vars.length<=vc1/\vc1<=maxLen)(h2:x.flds.length<=fc1/\fc1<=maxLen)(hy:PicAt w y vs2 fs2)(h3:y.vars.length<=vc2/\vc2<=maxLen)(h4:y.flds.length<=fc2/\fc2<=maxLen):Calls pG 33 #[pv V F s c cap,xv x vs1 vc1 fs1 fc1,xv y vs2 vc2 fs2 fc2] w λe w'=>iF w.heap.size w' e (if aK V F c [x,y]=0 then aB (cS aY) x y else dn) (aK V F c [x,y])/\Below w.heap.size w w':=
 (Kd V F s c cap x vs1 vc1 fs1 fc1 y vs2 vc2 fs2 fc2 w hcd hx h1 h2 hy h3 h4).mono λe w' h=>⟨h.1.weak,h.2⟩
theorem Tryz.info_edge:(Tryz.prog.info? 45).map (λi=>(i.zero,i.size,i.bytes))=sO (sO (Ag #[I Y 0,Bb false,U nO 0 0,U nO 0 0]),4,64):=by kernel_rfl
def fD (fn:Nat)(ar:Value->Array Value)(n sb:Nat)(eb:Option Nat)(w:World)(x x':Pic):Prop:=∀wx xb v gs gc L,Below w.heap.size w wx->kC n sb eb w.heap.size wx xb v gs gc L x->Calls pG fn (ar (Pp (sO ⟨xb,0,nO⟩))) wx λe w'=>e=Rt (Tu #[])/\(∃v' gs' gc' L',kC n sb eb w.heap.size w' xb v' gs' gc' L' x')/\Below w.heap.size wx w'
theorem G8 (w:World)(e:Ed)(cs:Array Value)(t:TypeId)(hcs:cs.toList=cQ e):∀ad,sO (⟨w.heap.size,0,nO⟩:Addr)=sO ad->∀j u,(cQ e)[j]? =sO u->(w.alloc (Cc cs t)).cell? (ad.add j)=sO u:=by
  intro ad e1 j u hj;cases e1;rw[Addr.add_lit,Nat.zero_add];rw[<-hcs] at hj;simpa[go_sem] using hj
theorem CB (w:World):PicAt w nonePic nO none:=⟨λi hi=>absurd hi (by simp[nonePic]),λi hi=>absurd hi (by simp[nonePic])⟩
theorem y8 {V F:Int}{c:List Ins}{x:Pic}(h0:ah V F c=0)(hx:aF V F c x=0):aK V F c [x,nonePic]=0:=by
  unfold aK;rw[if_pos h0];unfold cj;rw[if_pos hx];unfold cj;rw[if_pos (show aF V F c nonePic=0 from rfl)];rfl
theorem yc {j:Gs->Gs->Gs}{x:Pic}(hn:x.none=false):aB j x nonePic=x:=by
  unfold aB;rw[if_neg (by rw[hn];decide),if_pos (show nonePic.none=true from rfl)]
theorem Gi {T:Nat->Prop}{H xb:Nat}{w w':World}{v:Ro}{gs:oA}{gc:Nat}{L:List Ro}(h:PicG T H w v gs gc L)(hT:∀b,T b->b≠xb)(ho:Off v (j3 gs L.length gc).ownBlock L xb)(hs:∀b,b≠xb->w'.heap[b]? =w.heap[b]?)(hz:w.heap.size<=w'.heap.size):PicG T H w' v gs gc L:=
  ⟨h.vars.same λb hb=>hs b λe=>ho.1 (by rw[hb,e]),da h.flds λb hb=>hs b λe=>ho.2.1 (by rw[hb,e]),λr hr=>(h.rows r hr).same λb hb=>hs b λe=>ho.2.2 r hr (by rw[hb,e]),
   λg hg=>⟨(h.sv g hg).1.same (λb hb _=>hs b (hT b hb.1)) hz,(h.sv g hg).2⟩,λr hr g hg=>⟨(h.sf r hr g hg).1.same (λb hb _=>hs b (hT b hb.1)) hz,(h.sf r hr g hg).2⟩,h.dv,h.df,h.dr⟩
theorem sL {p:Prop}(h:p:=by
  refine wpAnyH_ready (rs:=[14]) (by kernel_rfl) (by simp) ?_;refine AllReadyH.cons rfl (λK hK=> ?_) AllReadyH.nil;have r0:=A3.1 0 _ rfl;have r1:=A3.1 1 _ rfl;have r2:=A3.1 2 _ rfl;have f0:=A3.2.2 0;have f1:=A3.2.2 1;have f2:=A3.2.2 2;go_simp;have A4:Cells (((w3.setCell ⟨xb,0,none⟩ (.bool false)).setCell ⟨xb,1,none⟩ (.slice v.rs v.l.length v.rc)).setCell ⟨xb,2,none⟩ (.slice gs L0.length gc)) xb [.bool false,.slice v.rs v.l.length v.rc,.slice gs L0.length gc]:=((A3.put 0 (by simp) _).put 1 (by simp) _).put 2 (by simp) _;have B4:Below w.heap.size w (((w3.setCell ⟨xb,0,none⟩ (.bool false)).setCell ⟨xb,1,none⟩ (.slice v.rs v.l.length v.rc)).setCell ⟨xb,2,none⟩ (.slice gs L0.length gc)):=((B3.setCell (by simp only;omega) _).setCell (by simp only;omega) _).setCell (by simp only;omega) _;have hch:∀q,q≠xb->(((w3.setCell ⟨xb,0,none⟩ (.bool false)).setCell ⟨xb,1,none⟩ (.slice v.rs v.l.length v.rc)).setCell ⟨xb,2,none⟩ (.slice gs L0.length gc)).heap[q]? =w3.heap[q]? :=λq hq=>by rw[Below.heap_setCell _ _ _ _ hq,Below.heap_setCell _ _ _ _ hq,Below.heap_setCell _ _ _ _ hq]
  have hcz:w3.heap.size<=(((w3.setCell ⟨xb,0,none⟩ (.bool false)).setCell ⟨xb,1,none⟩ (.slice v.rs v.l.length v.rc)).setCell ⟨xb,2,none⟩ (.slice gs L0.length gc)).heap.size:=by simp[World.setCell]
  have G4:PicG (ClT n sb (Value.slice es EL.length ec).ownBlock xb) w.heap.size (((w3.setCell ⟨xb,0,none⟩ (.bool false)).setCell ⟨xb,1,none⟩ (.slice v.rs v.l.length v.rc)).setCell ⟨xb,2,none⟩ (.slice gs L0.length gc)) v gs gc L0:=Gi G3 (λb hb=>hb.2.2.1) OF3 hch hcz;refine hK.out _ _ (HKZ.out _ B4) (λhHeld4=> ?_);clear hK K r0 r1 r2 f0 f1 f2 A3 B3 G3 hch hcz;refine sm ?_;generalize (((w3.setCell ⟨xb,0,none⟩ (.bool false)).setCell ⟨xb,1,none⟩ (.slice v.rs v.l.length v.rc)).setCell ⟨xb,2,none⟩ (.slice gs L0.length gc))=w4 at *;have OF4:=OF3;have EX4:=EX3;clear OF3 EX3;refine vH 15 ?_ ?_;refine wpAnyH_done (by kernel_rfl) ?_ _
  first|refine hK1 _ _ (Met.intro (hJ1 _ _ ?_))|refine Met.intro (hJ1 _ _ ?_)|refine hJ1 _ _ ?_
  (repeat apply Exists.intro)
  refine⟨?_,rfl⟩;exact⟨xb,v,gs,gc,L0,rfl,rfl,⟨zxb,A4,G4,OF4,EX4.out.symm⟩,B4⟩):p:=h
theorem eJ (fn:Nat)(cs:Array Value)(ar:Value->Array Value)(har:∀p,#[p]++cs=ar p)(hf:∀args wx,Sem.run pG (callFunc fn args) wx=.ok (.enter fn args) wx)(n:Nat)(ta:Int)(x':Pic)(EL:List Ed)(es:oA)(ec:Nat)(sb:Nat)(i:Ins)(V F:Int)(s:oA)(c:List Ins)(cap:Nat)(at_:Int)(x:Pic)(vs:oA)(vc:Nat)(fs:oA)(fc:Nat)(wr fl:Bool)(w0 w:World)(hS:Cells w sb (aM i V F s c cap at_ x vs vc fs fc (U es EL.length ec) wr fl))(hc0:CodeAt w0 s c)(hx0:PicAt w0 x vs fs)(hz0:w0.heap.size<=sb)(hB0:Below w0.heap.size w0 w)(K:SCtx V F c x vc fc i at_)(hn:n=sb)(hER:ERow n sb w (U es EL.length ec) EL)(hL2:EL.length<=10)
    (hCL:fD fn ar n sb (j3 es EL.length ec).ownBlock w x x'):
    Calls pG 93 #[Pp (sO ⟨sb,0,nO⟩),I Y ta,.func (.func fn) #[] cs] w λe w'=>e=Rt (Tu #[])/\(∃ev' q,Cells w' sb (aM i V F s c cap at_ x vs vc fs fc ev' wr fl)/\ERow n sb w' ev' (EL++[q])/\edG q=⟨ta,x'⟩)/\Below sb w w':=by
  obtain⟨tk,hik,hik0,hik1,hik2⟩:=info_parts Tryz.info_edge;have hnx:x.none=false:=K.kx.none;have hck:aF V F c x=0:=K.kx.ck;have HJN:Hid (∀wx,Below w.heap.size w wx->Calls pG 32 #[pv V F s c cap,Ag #[Bb false,U vs x.vars.length vc,U fs x.flds.length fc],Ag #[Bb true,U nO 0 0,U nO 0 0]] wx λe w'=>(∃v gs gc L0,x=aL false v L0/\e=Rt (Tu #[Ag #[Bb false,U v.rs v.l.length v.rc,U gs L0.length gc],I Y 0])/\PicG (λb=>wx.heap.size<=b) wx.heap.size w' v gs gc L0)/\Below wx.heap.size wx w'):=λwx hb=>by
    have hbb:=hB0.trans (hb.mono hB0.size);have h:=Dc V F s c cap x vs vc fs fc nonePic nO 0 nO 0 wx (hc0.below hbb (lR _)) (hx0.below hbb (lR _)) K.cv K.cf (CB wx) ⟨lR _,j4 _⟩ ⟨lR _,j4 _⟩;rw[y8 K.h0 hck,if_pos rfl,yc hnx] at h;have exv:xv x vs vc fs fc=Ag #[Bb false,U vs x.vars.length vc,U fs x.flds.length fc]:=by unfold xv;rw[hnx]
    rw[exv] at h;refine h.mono ?_;rintro e w' ⟨⟨v,gs,gc,L0,h1,h2,h3⟩,h4⟩;rw[hnx] at h1 h2;exact⟨⟨v,gs,gc,L0,h1,h2,h3⟩,h4⟩
  have HKZ:Hid (∀wx,Below w.heap.size w wx->(wx.cell? ⟨sb,6,nO⟩=sO (I Y V)/\wx.cell? ⟨sb,7,nO⟩=sO (I Y F)/\wx.cell? ⟨sb,8,nO⟩=sO (U s c.length cap))/\(wx.cell? ⟨sb,10,nO⟩=sO (Bb false)/\wx.cell? ⟨sb,11,nO⟩=sO (U vs x.vars.length vc)/\wx.cell? ⟨sb,12,nO⟩=sO (U fs x.flds.length fc))):=λwx hb=>by
    have h:=hS.call hb;exact⟨⟨h.1 6 _ rfl,h.1 7 _ rfl,h.1 8 _ rfl⟩,by rw[<-hnx];exact h.1 10 _ rfl,h.1 11 _ rfl,h.1 12 _ rfl⟩
  have HSS:=aa hS;have HCL:=aa hCL;have zsb:=hS.2.1;clear hS hc0 hx0 hnx hck hCL;go_enter Tryz.func93,Tryz.ntmps93
  go_upto_region 0 with fail
  go_cut [6,7] (λt6 t7 wc=>∃xb v gs gc L0,t6=Pp (sO ⟨xb,0,nO⟩)/\t7=I Y 0/\kC n sb (j3 es EL.length ec).ownBlock w.heap.size wc xb v gs gc L0 x/\Below w.heap.size w wc)
  case first=>
    rename_i J1 K1 hJ1 hK1;have B1:Below w.heap.size w w.drew:=(bR _ _).drew;refine wp_region_held_drew (S:=(λwx=>(wx.cell? ⟨sb,6,nO⟩=sO (I Y V)/\wx.cell? ⟨sb,7,nO⟩=sO (I Y F)/\wx.cell? ⟨sb,8,nO⟩=sO (U s c.length cap))/\(wx.cell? ⟨sb,10,nO⟩=sO (Bb false)/\wx.cell? ⟨sb,11,nO⟩=sO (U vs x.vars.length vc)/\wx.cell? ⟨sb,12,nO⟩=sO (U fs x.flds.length fc)))) (by kernel_rfl) (HKZ.out _ B1) (λhHeld=> ?_);generalize w.drew=w1 at *;refine vH 0 ?_ ?_;refine vH 1 ?_ ?_;refine vH 2 ?_ ?_;refine vH 3 ?_ ?_;refine vH 4 ?_ ?_;refine vH 5 ?_ ?_;refine vH 6 ?_ ?_;refine vH 7 ?_ ?_;refine vH 8 ?_ ?_;refine wpAnyH_ready (rs:=[9,13]) (by kernel_rfl) (by simp) ?_;refine AllReadyH.cons rfl (λK hK=> ?_) (AllReadyH.cons rfl (λK hK=> ?_) AllReadyH.nil)
    · go_simp
      refine(HJN.out w1 B1).mono ?_;rintro e w2 ⟨⟨v,gs,gc,L0,EX,rfl,PG⟩,hb2⟩;have B2:=B1.trans (hb2.mono (B1.size));have EX2:=aa EX;clear EX;have P2:PicG (λb=>w.heap.size<=b) w.heap.size w2 v gs gc L0:=(PG.mono λb hb _=>by have:=B1.size;omega).down B1.size
      clear PG;refine hK.out _ _ (HKZ.out _ B2) (λhHeld2=> ?_);clear hK K hb2 B1;refine sm ?_;refine vH 10 ?_ ?_;refine vH 11 ?_ ?_;refine vH 12 ?_ ?_;refine wpAnyH_ready (rs:=[13]) (by kernel_rfl) (by simp) ?_;refine AllReadyH.cons rfl (λK hK=> ?_) AllReadyH.nil;go_simp;have hb3:Below w2.heap.size w2 (w2.alloc (Cc #[Bb false,U nO 0 0,U nO 0 0] 28)):=by go_grown
      have B3:=B2.trans (hb3.mono (B2.size));have A3:Cells (w2.alloc (Cc #[Bb false,U nO 0 0,U nO 0 0] 28)) w2.heap.size [Bb false,U nO 0 0,U nO 0 0]:=Cells.new w2 28 [Bb false,U nO 0 0,U nO 0 0];have zxb:=B2.size;have G3:PicG (ClT n sb (j3 es EL.length ec).ownBlock w2.heap.size) w.heap.size (w2.alloc (Cc #[Bb false,U nO 0 0,U nO 0 0] 28)) v gs gc L0:=(P2.mono λb hb hlt=>⟨by omega,by omega,Nat.ne_of_lt hlt,λe=>by have:=(aH hER.own e).1;omega⟩).call hb3
      have OF3:Off v (j3 gs L0.length gc).ownBlock L0 w2.heap.size:=⟨λe=>z9 _ (P2.vars.lt e).1,λe=>z9 _ (aH P2.flds e).1,λr hr e=>z9 _ ((P2.rows r hr).lt e).1⟩;have EX3:=EX2;clear P2 EX2;clear B2;refine hK.out _ _ (HKZ.out _ B3) (λhHeld3=> ?_);clear hK K hb3;refine sm ?_;generalize w2.alloc (Cc #[Bb false,U nO 0 0,U nO 0 0] 28)=w3 at *;generalize w2.heap.size=xb at *;exact sL
    · go_simp
      have hb2:Below w1.heap.size w1 (w1.alloc (Cc #[Bb false,U nO 0 0,U nO 0 0] 28)):=by go_grown
      have B2:=B1.trans (hb2.mono (B1.size));have A2:Cells (w1.alloc (Cc #[Bb false,U nO 0 0,U nO 0 0] 28)) w1.heap.size [Bb false,U nO 0 0,U nO 0 0]:=Cells.new w1 28 [Bb false,U nO 0 0,U nO 0 0];have zxb:=B1.size;clear B1;refine hK.out _ _ (HKZ.out _ B2) (λhHeld2=> ?_);clear hK K hb2;refine sm ?_;generalize w1.alloc (Cc #[Bb false,U nO 0 0,U nO 0 0] 28)=w2 at *;generalize w1.heap.size=xb at *;refine wpAnyH_ready (rs:=[9]) (by kernel_rfl) (by simp) ?_;refine AllReadyH.cons rfl (λK hK=> ?_) AllReadyH.nil;go_simp;refine(HJN.out w2 B2).mono ?_;rintro e w3 ⟨⟨v,gs,gc,L0,EX,rfl,PG⟩,hb3⟩;have A3:=A2.call hb3;have B3:=B2.trans (hb3.mono (B2.size));have EX3:=aa EX;clear EX;have G3:PicG (ClT n sb (j3 es EL.length ec).ownBlock xb) w.heap.size w3 v gs gc L0:=((PG.mono λb hb _=>⟨by have:=B2.size;omega,by have:=B2.size;omega,by have:=A2.2.1;omega,λe=>by have:=(aH hER.own e).1;have:=B2.size;omega⟩).down B2.size)
      have OF3:Off v (j3 gs L0.length gc).ownBlock L0 xb:=⟨λe=>by have:=(PG.vars.lt e).2;have:=A2.2.1;omega,λe=>by have:=(aH PG.flds e).2;have:=A2.2.1;omega,λr hr e=>by have:=((PG.rows r hr).lt e).2;have:=A2.2.1;omega⟩
      clear PG;refine hK.out _ _ (HKZ.out _ B3) (λhHeld3=> ?_);clear hK K hb3 A2 B2;refine sm ?_;refine vH 10 ?_ ?_;refine vH 11 ?_ ?_;refine vH 12 ?_ ?_;exact sL
  obtain⟨xb,v,gs,gc,L0,rfl,rfl,CP,B1⟩:=hcut;generalize wc=w1 at *;clear wc HKZ HJN;go_wp2_with fail;refine(HCL.out w1 xb v gs gc L0 B1 CP).mono ?_;rintro e w2 ⟨rfl,⟨v',gs',gc',L',CP'⟩,hb2⟩;have B2:=B1.trans hb2;have zxb:=CP'.1;have A2:=CP'.2.1;have G2:=CP'.2.2.1;have EX':=CP'.2.2.2.2;have S2:=HSS.out.call B2;have ER1:=hER;have ER2:=hER.call B2;have zs2:=S2.2.1;have bz:=B2.size;clear CP CP' hb2 B1 HCL v gs gc L0;have HKZ:Hid (∀wx,Below w2.heap.size w2 wx->wx.cell? ⟨sb,13,nO⟩=sO (U es EL.length ec)/\(wx.cell? ⟨xb,0,nO⟩=sO (Bb false)/\wx.cell? ⟨xb,1,nO⟩=sO (U v'.rs v'.l.length v'.rc)/\wx.cell? ⟨xb,2,nO⟩=sO (U gs' L'.length gc'))):=λwx hb=>⟨(S2.call hb).1 13 _ rfl,(A2.call hb).1 0 _ rfl,(A2.call hb).1 1 _ rfl,(A2.call hb).1 2 _ rfl⟩
  go_upto_region 2 with fail
  have HD:Below w2.heap.size w2 w2.drew:=(bR _ _).drew;refine aw (S:=(λwx=>wx.cell? ⟨sb,13,nO⟩=sO (U es EL.length ec)/\(wx.cell? ⟨xb,0,nO⟩=sO (Bb false)/\wx.cell? ⟨xb,1,nO⟩=sO (U v'.rs v'.l.length v'.rc)/\wx.cell? ⟨xb,2,nO⟩=sO (U gs' L'.length gc')))) [12] (by kernel_rfl) (HKZ.out _ HD) (λhHeld=> ?_);generalize w2.drew=w3 at *;refine vZ 0 ?_ ?_;refine vZ 1 ?_ ?_;refine vZ 2 ?_ ?_;refine vZ 3 ?_ ?_;refine vZ 4 ?_ ?_;refine vZ 5 ?_ ?_;refine vZ 6 ?_ ?_;refine vZ 7 ?_ ?_;refine am (i:=8) rfl (by kernel_rfl) (λK hK=> ?_);go_simp;have HB4:Below w2.heap.size w2 (w3.alloc (Cc #[I Y ta,Bb false,U v'.rs v'.l.length v'.rc,U gs' L'.length gc'] 45)):=HD.alloc HD.size _;refine hK.out _ _ (HKZ.out _ HB4) (λhHeld=> ?_);clear hK K;refine sm ?_;refine am (i:=9) rfl (by kernel_rfl) (λK hK=> ?_);have R4:=ER2.call HB4;have hfl:L'.map roG=x'.flds:=by rw[<-EX'];rfl
  have hvl:roG v'=x'.vars:=by rw[<-EX'];rfl
  have hnn:x'.none=false:=by rw[<-EX'];rfl
  have ln1:x'.vars.length=v'.l.length:=by rw[<-hvl];simp[roG]
  have ln2:x'.flds.length=L'.length:=by rw[<-hfl];simp
  have EDI:pj (λb=>n<=b/\b≠sb/\(j3 es EL.length ec).ownBlock≠sO b) (w3.alloc (Cc #[I Y ta,Bb false,U v'.rs v'.l.length v'.rc,U gs' L'.length gc'] 45)) ⟨ta,x',v'.rs,v'.rc,gs',gc'⟩:=by
    have h1:=(G2.call HB4).on false;rw[EX'] at h1;have c1:=G2.vcap false;have c2:=G2.fcap' false;rw[EX'] at c1 c2;refine⟨h1.mono λb hb _=> ?_,c1,c2⟩;rcases hb with hb|hb
    · exact⟨hb.1,hb.2.1,hb.2.2.2⟩
    · exact⟨by omega,by omega,λe=>by have:=(aH ER1.own e).1;omega⟩
  refine dK _ rfl _ _ 41 rfl n 45 tk (Ag #[I Y 0,Bb false,U nO 0 0,U nO 0 0]) 4 64 Tryz.underlying41 hik hik0 hik1 hik2 rfl (by decide) _ _ _ rfl R4.own (sO ⟨w3.heap.size,0,nO⟩) 1 1 (cQ ⟨ta,x',v'.rs,v'.rc,gs',gc'⟩) rfl rfl (λh=>by cases h) (G8 w3 ⟨ta,x',v'.rs,v'.rc,gs',gc'⟩ #[I Y ta,Bb false,U v'.rs v'.l.length v'.rc,U gs' L'.length gc'] _ (by simp only[cQ,hnn,ln1,ln2])) (kN _) (by unfold maxLen;omega) (by omega) (by rw[zA];have:=HD.size;omega) ?_;intro ev' w5 hown hgrow hat;have R5:=R4.grown EDI hown hgrow hat (by rw[zA];have:=HD.size;omega)
  have HB5:∀b,b < w2.heap.size->(j3 es EL.length ec).ownBlock≠sO b->w5.heap[b]? =w2.heap[b]? :=λb hb hne=>by rw[hgrow.block b (by rw[zA];have:=HD.size;omega) (λe=>hne e.symm)];exact HB4.block b hb
  have HL5:Below sb w2 w5:=(HB4.mono (j8 zs2)).grown hgrow (by rw[zA];have:=HD.size;omega) (λk hk=>by have:=(aH R4.own hk).2;omega)
  obtain⟨es',ec',rfl,-,-⟩:=R5.form;rw[show (EL++[(⟨ta,x',v'.rs,v'.rc,gs',gc'⟩:Ed)]).length=EL.length+1 by simp] at R5;have S5:Cells w5 sb (aM i V F s c cap at_ x vs vc fs fc (U es EL.length ec) wr fl):=S2.same (HB5 sb zs2 ER1.off) HL5.size;have X5:Cells w5 xb [Bb false,U v'.rs v'.l.length v'.rc,U gs' L'.length gc']:=A2.same (HB5 xb A2.2.1 (λe=>by have:=(aH ER1.own e).1;omega)) HL5.size
  refine hK.out _ _ ⟨S5.1 13 _ rfl,X5.1 0 _ rfl,X5.1 1 _ rfl,X5.1 2 _ rfl⟩ (λhHeld=> ?_);clear hK K hown hgrow hat HB4 R4 EDI;refine sm ?_;refine vZ 10 ?_ ?_;refine vZ 11 ?_ ?_;refine bo (i:=12) rfl (by kernel_rfl) (by kernel_rfl) (λK hK=> ?_);have s13:=S5.1 13 _ rfl;have f13:=S5.2.2 13;go_simp;refine hK.out _ _ ?_;clear hK K;refine sm ?_;refine ap (by kernel_rfl) ?_ _
  first|go_end0|refine bodyPost_ret (results_none rfl _ _ _) rfl ?_
  refine⟨rfl,⟨_,⟨ta,x',v'.rs,v'.rc,gs',gc'⟩,S5.put 13 (by simp[aM]) _,R5.same (λb hb hne _=>hSe _ _ _ _ hne) (by simp[j7]),rfl⟩,((B2.mono (j8 zsb)).trans HL5).setCell (lR _) _⟩
theorem AC (a:Array Value)(wx:World):Sem.run pG (callFunc 94 a) wx=.ok (.enter 94 a) wx:=by kernel_rfl
theorem DS (n:Nat)(ta:Int)(x':Pic):type_of% (eJ 94 #[] (λp=>#[p]) (λ_=>rfl) AC n ta x'):=eJ 94 #[] (λp=>#[p]) (λ_=>rfl) AC n ta x'
theorem vO (a:Array Value)(wx:World):Sem.run pG (callFunc 96 a) wx=.ok (.enter 96 a) wx:=by kernel_rfl
theorem Cd (n:Nat)(ta:Int)(x':Pic):type_of% (eJ 96 #[] (λp=>#[p]) (λ_=>rfl) vO n ta x'):=eJ 96 #[] (λp=>#[p]) (λ_=>rfl) vO n ta x'
theorem RoOwn.gu {w:World}{B:Nat}{r:Ro}(h:RoOwn w B r){b:Nat}(hb:r.rs=sO ⟨b,0,nO⟩){k:Nat}(hk:k < r.l.length):GuAt w b (k * 7) r.l[k].g r.l[k].ss r.l[k].cap:=by
 obtain⟨b',e,eb,_,hz⟩:=h.form (by omega);rw[hb] at e;cases e;have h1:w.ownsRow B 91 7 (U (sO ⟨b,0,nO⟩) r.l.length r.rc) r.l.length (aJ r.l):=by rw[<-hb];exact h
 have hc:∀j,j < 7->w.cell? ⟨b,k * 7+j,nO⟩=(bh r.l[k])[j]? :=λj hj=>by
  rw[<-dZ r.l k hk j hj];exact World.ownsRow.cellAt h1 _ (by omega)
 exact⟨⟨hc 0 (by omega),hc 1 (by omega),hc 2 (by omega),hc 3 (by omega),hc 4 (by omega),hc 5 (by omega),hc 6 (by omega)⟩,hz⟩
theorem dA {n:Bool}{v:Ro}{L:List Ro}{k:Nat}{y:Gc}:aL n ⟨v.rs,v.rc,v.l.set k y⟩ L=aO (aL n v L) (k:Int) y.g:=by simp[aL,roG,aO,j9]
theorem E6 {n sb H:Nat}{eb:Option Nat}{w0 w:World}{xb:Nat}{v:Ro}{gs:oA}{gc:Nat}{L:List Ro}{y:Gc}(h:IntsIn (λb=>n<=b/\b≠sb/\eb≠sO b) w0 y.ss y.g.s)(h1:y.g.s.length<=y.cap)(h2:y.cap<=maxLen)(hH:w0.heap.size<=H)(hb:Below w0.heap.size w0 w)(G:PicG (ClT n sb eb xb) H w v gs gc L)(hx:H<=xb):bH (λb=>ClT n sb eb xb b/\Off v (j3 gs L.length gc).ownBlock L b) w y:=by
 refine⟨((h.mono (S':=λb=>(n<=b/\b≠sb/\eb≠sO b)/\b < w0.heap.size) λb hb hlt=>⟨hb,hlt⟩).call hb).mono λb hb' _=>⟨⟨hb'.1.1,hb'.1.2.1,by omega,hb'.1.2.2⟩,λe=> ?_,λe=> ?_,λr hr e=> ?_⟩,h1,h2⟩
 ·have:=(G.vars.lt e).2;omega
 ·have:=(aH G.flds e).2;omega
 ·have:=((G.rows r hr).lt e).2;omega
theorem IF (n sb:Nat)(eb:Option Nat)(w:World)(x:Pic):fD 94 (λp=>#[p]) n sb eb w x x:=by
 intro wx xb v gs gc L hb hp;have HP:=aa hp;clear hp hb;go_enter Tryz.func94,Tryz.ntmps94;go_wp2
 first|go_end0|refine bodyPost_ret (results_none rfl _ _ _) rfl ?_
 exact⟨rfl,⟨v,gs,gc,L,HP.out⟩,bR _ _⟩
theorem Gr (n sb:Nat)(eb:Option Nat)(w:World)(x:Pic):fD 96 (λp=>#[p]) n sb eb w x x:=by
 intro wx xb v gs gc L hb hp;have HP:=aa hp;clear hp hb;go_enter Tryz.func96,Tryz.ntmps96;go_wp2
 first|go_end0|refine bodyPost_ret (results_none rfl _ _ _) rfl ?_
 exact⟨rfl,⟨v,gs,gc,L,HP.out⟩,bR _ _⟩
theorem Kx (n sb:Nat)(eb:Option Nat)(i:Ins)(V F:Int)(s:oA)(c:List Ins)(cap:Nat)(at_:Int)(x:Pic)(vs:oA)(vc:Nat)(fs:oA)(fc:Nat)(ev:Value)(wr fl:Bool)(gb pb:Nat)(g:Gs)(ss:oA)(gc:Nat)(w:World)(hS:Cells w sb (aM i V F s c cap at_ x vs vc fs fc ev wr fl))(hP:Cells w pb [Pp (sO ⟨sb,0,nO⟩)])(hG:Cells w gb [Bb g.n,Bb g.sp.n,I Y g.sp.lo,I Y g.sp.hi,Bb g.t,Bb g.f,U ss g.s.length gc])(hI:IntsIn (λb=>n<=b/\b≠sb/\eb≠sO b) w ss g.s)(h1:g.s.length<=gc)(h2:gc<=maxLen)(hk:∃k:Nat,i.tgt=k/\k < x.vars.length):
  fD 162 (λp=>#[p,Pp (sO ⟨gb,0,nO⟩),Pp (sO ⟨pb,0,nO⟩)]) n sb eb w x (aO x i.tgt g):=by
 intro wx xb v gs gcc L hb0 hp;obtain⟨zxb,A0,G0,OF,EX⟩:=hp;have hdr:Below wx.heap.size wx wx.drew:=(bR _ _).drew;have hb:=hb0.drew;have A:=A0.call hdr;have G:=G0.call hdr;clear hb0 A0 G0 hdr;obtain⟨k,ek,hkx⟩:=hk;have hkv:k < v.l.length:=by rw[<-EX] at hkx;simpa[aL,roG] using hkx
 obtain⟨vb,evb,eb1,hvb,zvb⟩:=G.vars.form (by omega);have GU:=G.vars.gu evb hkv;have GI:=E6 (y:=⟨g,ss,gc⟩) hI h1 h2 (lR _) hb G zxb;have GZ:=G.setV evb hkv GI;have TH:=aa (G.vars.thaw evb);have nxv:xb≠vb:=λe=>OF.1 (by rw[eb1,e]);have n0:(0:Int)<=(k:Int):=by omega
 have n1:(k:Int) < (v.l.length:Int):=by omega
 have A1:=A.1 1 _ rfl;rw[evb] at A1;have S1:=(hS.call hb).1 1 _ rfl;rw[ek] at S1;have P1:=(hP.call hb).1 0 _ rfl;have G7:=hG.call hb;have HKZ:Hid (wx.drew.cell? ⟨xb,1,nO⟩=sO (U (sO ⟨vb,0,nO⟩) v.l.length v.rc)/\wx.drew.cell? ⟨pb,0,nO⟩=sO (Pp (sO ⟨sb,0,nO⟩))/\wx.drew.cell? ⟨sb,1,nO⟩=sO (I Y (k:Int))/\(wx.drew.cell? ⟨gb,0,nO⟩=sO (Bb g.n)/\wx.drew.cell? ⟨gb,1,nO⟩=sO (Bb g.sp.n)/\wx.drew.cell? ⟨gb,2,nO⟩=sO (I Y g.sp.lo)/\wx.drew.cell? ⟨gb,3,nO⟩=sO (I Y g.sp.hi)/\wx.drew.cell? ⟨gb,4,nO⟩=sO (Bb g.t)/\wx.drew.cell? ⟨gb,5,nO⟩=sO (Bb g.f)/\wx.drew.cell? ⟨gb,6,nO⟩=sO (U ss g.s.length gc))):=⟨A1,P1,S1,G7.1 0 _ rfl,G7.1 1 _ rfl,G7.1 2 _ rfl,G7.1 3 _ rfl,G7.1 4 _ rfl,G7.1 5 _ rfl,G7.1 6 _ rfl⟩;have HPOST:Hid (∃v' gs' gc' L',kC n sb eb w.heap.size (bP wx.drew vb k ⟨g,ss,gc⟩) xb v' gs' gc' L' (aO x i.tgt g)):=by
  refine⟨⟨v.rs,v.rc,v.l.set k ⟨g,ss,gc⟩⟩,gs,gcc,L,zxb,?_,GZ,(Off.same (ge (by simp))).2 OF,?_⟩
  ·simp only[q7]
   exact A.same (cU nxv) (by rw[cN];exact lR _)
  ·rw[dA,EX,ek]
 have HBEL:Hid (Below w.heap.size wx (bP wx.drew vb k ⟨g,ss,gc⟩)):=dd (bR _ _).drew hvb;clear A1 S1 P1 G7 GI GZ A G OF EX ek hS hP hG hI;unfold bP at HPOST HBEL;go_enter Tryz.func162,Tryz.ntmps162
 go_upto_region 0 with fail
 refine aw (S:=(λwx=>wx.cell? ⟨xb,1,nO⟩=sO (U (sO ⟨vb,0,nO⟩) v.l.length v.rc)/\wx.cell? ⟨pb,0,nO⟩=sO (Pp (sO ⟨sb,0,nO⟩))/\wx.cell? ⟨sb,1,nO⟩=sO (I Y (k:Int))/\(wx.cell? ⟨gb,0,nO⟩=sO (Bb g.n)/\wx.cell? ⟨gb,1,nO⟩=sO (Bb g.sp.n)/\wx.cell? ⟨gb,2,nO⟩=sO (I Y g.sp.lo)/\wx.cell? ⟨gb,3,nO⟩=sO (I Y g.sp.hi)/\wx.cell? ⟨gb,4,nO⟩=sO (Bb g.t)/\wx.cell? ⟨gb,5,nO⟩=sO (Bb g.f)/\wx.cell? ⟨gb,6,nO⟩=sO (U ss g.s.length gc)))) [11] (by kernel_rfl) HKZ.out (λhHeld=> ?_);generalize wx.drew=wq at *;refine vZ 0 ?_ ?_;refine vZ 1 ?_ ?_;refine vZ 2 ?_ ?_;refine vZ 3 ?_ ?_;refine vZ 4 ?_ ?_;refine vZ 5 ?_ ?_;refine vZ 6 ?_ ?_;refine vZ 7 ?_ ?_;refine vZ 8 ?_ ?_;refine vZ 9 ?_ ?_;refine vZ 10 ?_ ?_;refine bo (i:=11) rfl (by kernel_rfl) (by kernel_rfl) (λK hK=> ?_);obtain⟨⟨q0,q1,q2,q3,q4,q5,q6⟩,qz⟩:=id GU;have f0:=TH.out (k * 7);have f1:=TH.out (k * 7+1);have f2:=TH.out (k * 7+2);have f3:=TH.out (k * 7+3);have f4:=TH.out (k * 7+4);have f5:=TH.out (k * 7+5);have f6:=TH.out (k * 7+6);go_simp;refine hK.out _ _ ?_;clear hK K q0 q1 q2 q3 q4 q5 q6 qz f0 f1 f2 f3 f4 f5 f6;refine sm ?_;refine ap (by kernel_rfl) ?_ _;go_wp2
 first|go_end0|refine bodyPost_ret (results_none rfl _ _ _) rfl ?_
 exact⟨rfl,HPOST.out,HBEL.out⟩
theorem iM {p:Prop}(h:p:=by
 simp only[bm] at ewx;rw[<-ewx];clear ewx;have TX:=PU.cells;have IX:=PU.keep IP;have YX:=PU.keep YP;have OX:=PU.keep OP;have BX:=PU.low (by omega) BP;have YWX:=PU.low (by omega) YW;clear PU;have TX2:Cells wx w11.heap.size [.bool gg.n,.bool gg.sp.n,.int .i64 gg.sp.lo,.int .i64 gg.sp.hi,.bool gg.t,.bool gg.f,.slice ss gg.s.length cp]:=by rw[HGG.out.1,HGG.out.2.1,HGG.out.2.2];exact TX
 have HGI:Hid (IntsIn (λb=>(T b/\b < w.heap.size)\/w3.heap.size<=b) wx ss gg.s):=.inl HGS.out;have HCP:Hid (gg.s.length<=cp/\cp<=maxLen):=⟨by rw[HGS.out];exact Nat.zero_le _,by rw[HGG.out.2.2];exact Nat.zero_le _⟩;clear TX;have TX:=TX2;clear TX2 HGG HGS i0;have HIS:Hid (∀wz,Calls Tryz.prog 116 #[.agg #[.bool gg.n,.bool gg.sp.n,.int .i64 gg.sp.lo,.int .i64 gg.sp.hi,.bool gg.t,.bool gg.f,.slice ss gg.s.length cp]] wz λe w'=>e=.returned (.bool false)/\Below wz.heap.size wz w'):=λwz=>by have h:=ba gg ss cp wz;rw[hng.out] at h;exact h
 have t0:=TX.1 0 _ rfl;have t1:=TX.1 1 _ rfl;have t2:=TX.1 2 _ rfl;have t3:=TX.1 3 _ rfl;have t4:=TX.1 4 _ rfl;have t5:=TX.1 5 _ rfl;have t6:=TX.1 6 _ rfl;go_wp2_with (go_at_call 116;fail);refine((HIS.out wx).mono ?_);rintro e wy ⟨rfl,hby⟩;clear t0 t1 t2 t3 t4 t5 t6;have TY:=TX.call hby
 have IY:=IX.call hby
 have YY:=YX.call hby
 have OY:=OX.call hby
 have BY:=BX.trans (hby.mono BX.size);have YWY:=YWX.trans (hby.mono YWX.size);have HGY:=aa (IntsIn.call HGI.out hby);clear TX IX YX OX BX YWX HIS HGI;have GP:=GOW.same (w':=wy) (λb _ hlt=>YWY.block b hlt) YWY.size;have GC:=nM (T:=T) (y:=⟨gg,ss,cp⟩) GOW (by omega) (by omega) HGY.out HCP.out.1 HCP.out.2;have hktv:kt < v.l.length:=by have h:=hktx;rw[EPV.out] at h;simpa[aL,roG] using h
 obtain⟨vb,evb,eb1,hvb,zvb⟩:=GOW.vars.form (by omega);have GP2:=(GP.mono (T':=λb=>T b\/w.heap.size<=b) λb hb _=>.inr hb);have GS:=GP2.setV evb hktv GC;have GU:=GP.vars.gu evb (k:=kt) hktv;obtain⟨⟨u0,u1,u2,u3,u4,u5,u6⟩,uz⟩:=GU;have TH:=GP.vars.thaw evb;have f0:=TH (kt * 7);have f1:=TH (kt * 7+1);have f2:=TH (kt * 7+2);have f3:=TH (kt * 7+3);have f4:=TH (kt * 7+4);have f5:=TH (kt * 7+5);have f6:=TH (kt * 7+6);have y1:=YY.1 1 _ rfl;rw[evb] at y1;have i1:=IY.1 1 _ rfl;rw[HKT.out] at i1;have t0:=TY.1 0 _ rfl;have t1:=TY.1 1 _ rfl;have t2:=TY.1 2 _ rfl;have t3:=TY.1 3 _ rfl;have t4:=TY.1 4 _ rfl;have t5:=TY.1 5 _ rfl;have t6:=TY.1 6 _ rfl;have q0:(0:Int)<=(kt:Int):=by omega
 have q1:(kt:Int) < (v.l.length:Int):=by omega
 have HEV:=aa evb;have OS:Cells (bP wy vb kt ⟨gg,ss,cp⟩) w4.heap.size [.int .i64 ((m:Int)+1),.bool false,.slice v.rs v.l.length v.rc,.slice gs L.length gc]:=OY.same (cU (by omega)) (by rw[cN];exact Nat.le_refl _);have BS:Below w.heap.size w (bP wy vb kt ⟨gg,ss,cp⟩):=dd BY (by omega);have HF:Hid (bM (λb=>T b\/w.heap.size<=b) (bP wy vb kt ⟨gg,ss,cp⟩) (.returned (.tuple #[.slice (some ⟨w4.heap.size,0,none⟩) 1 1,.bool false,.bool false])) (aj i (m:Int) x)):=by
  show bM _ _ _ _;rw[HST.out,if_neg (by rw[hng.out];decide)];refine⟨some ⟨w4.heap.size,0,none⟩,1,rfl,?_⟩;refine ia (S:=(λb=>T b\/w.heap.size<=b)) (v:=⟨v.rs,v.rc,v.l.set kt ⟨gg,ss,cp⟩⟩) (L:=L) (by simp only[List.length_set];exact OS) (.inr (by omega)) GS (λb hb=>hb) (λb hb=>.inr (by omega)) ?_;rw[dA,<-EPV.out,HKT.out]
 clear GP GC GP2 GS TH TY IY YY OY OS BY HGY GOW YWY EPV evb;obtain⟨wv,ewv⟩:∃q,q=bP wy vb kt ⟨gg,ss,cp⟩:=⟨_,rfl⟩;have HF2:=aa (And.intro HF.out BS);rw[<-ewv] at HF2
 go_upto_region 87 with fail
 clear u0 u1 u2 u3 u4 u5 u6 uz f0 f1 f2 f3 f4 f5 f6 t0 t1 t2 t3 t4 t5 t6 y1 i1 HF BS;simp only[bP] at ewv;rw[<-ewv];clear ewv;go_wp2;refine bodyPost_ret (v:=.tuple #[.slice (some ⟨w4.heap.size,0,none⟩) 1 1,.bool false,.bool false]) (by simp[results,Tryz.results59,go_sem]) rfl HF2.out):p:=h
theorem Hr {T:Nat->Prop}{V F:Int}{s:oA}{c:List Ins}{cap m:Nat}{i:Ins}{x:Pic}{vs:oA}{vc:Nat}{fs:oA}{fc:Nat}{w:World}{w3 w4 w7 w11 wp:World}{v:Ro}{gs:oA}{gc:Nat}{L:List Ro}(hx:PicOn T w x vs fs)(K:SCtx V F c x vc fc i (m:Int))(hk:i.k=1)(SP:Hid (SPre T V F s c cap (m:Int) i x vs vc fs fc w wp (w.heap.size+1+1) w3.heap.size w4.heap.size w7.heap.size (w7.heap.size+1) w11.heap.size w3 v gs gc L noneG nO 0 noneG nO 0)):SwT (λe w'=>bM (λb=>T b\/w.heap.size<=b) w' e (aj i (m:Int) x)/\Below w.heap.size w w') m w w3 w4 w7 w11 wp:=by
 have HKK:=aa hk;clear hk;have HK:=aa K;have HX:=aa hx;have h60:=K.lens.2.1;have n0:(0:Int)<=(m:Int):=K.a0;have n1:(m:Int) < (c.length:Int):=K.a1;have hm:m < c.length:=by omega
 have w61:(m:Int)<=60:=by omega
 clear K hx;refine fG rfl λz0 z2 z4 u=> ?_;simp only[j2,j2.loop,j6];obtain⟨BP,PP,XP,IP,YP,OP,AP,EP,TP,GAI,GBI,GOW,YW,-,EPV0,-,o2,o3,o4,o5,o6⟩:=SP.out;have EPV:=aa EPV0;clear EPV0;have i0:=IP.1 0 _ rfl;rw[HKK.out] at i0;obtain⟨kt,ekt,hktx⟩:=HK.out.varTo (by rw[HKK.out];rfl);have HKT:=aa ekt;clear ekt;obtain⟨gg,hgg⟩:∃g:Gs,g=⟨false,⟨false,i.n,i.n⟩,false,false,[]⟩:=⟨_,rfl⟩;obtain⟨ss,hss⟩:∃a:oA,a=none:=⟨_,rfl⟩;obtain⟨cp,hcp⟩:∃a:Nat,a=0:=⟨_,rfl⟩;have HGS:Hid (gg.s=[]):=by show _=_;simp[hgg,cE]
 have HST:Hid (aj i (m:Int) x=if ag gg then([],false,false) else([⟨(m:Int)+1,aO x i.tgt gg⟩],false,false)):=by show _=_;rw[hgg];simp[aj,aN,HK.out.kx.none,HKK.out]
 have hng:Hid (ag gg=false):=by
  show _=_;rw[hgg];simp[ag,aG,cE]
 have HGG:=aa (And.intro hgg (And.intro hss hcp));clear hgg hss hcp;have z1:=TP.1 1 _ rfl;have fz1:=TP.2.2 1;have z2:=TP.1 2 _ rfl;have fz2:=TP.2.2 2;have z3:=TP.1 3 _ rfl;have fz3:=TP.2.2 3;have i4:=IP.1 4 _ rfl
 go_upto_region 84 with fail
 clear z1 fz1 z2 fz2 z3 fz3 i4;obtain⟨wx,ewx⟩:∃q,q=bm wp (w11.heap.size) 1 [Bb false,I Y i.n,I Y i.n]:=⟨_,rfl⟩;have PU:=bE TP 1 _ ewx;exact iM
theorem GE {T:Nat->Prop}{V F:Int}{s:oA}{c:List Ins}{cap m:Nat}{i:Ins}{x:Pic}{vs:oA}{vc:Nat}{fs:oA}{fc:Nat}{w:World}{w3 w4 w7 w11 wp:World}{v:Ro}{gs:oA}{gc:Nat}{L:List Ro}(hx:PicOn T w x vs fs)(K:SCtx V F c x vc fc i (m:Int))(hk:i.k=14)(SP:Hid (SPre T V F s c cap (m:Int) i x vs vc fs fc w wp (w.heap.size+1+1) w3.heap.size w4.heap.size w7.heap.size (w7.heap.size+1) w11.heap.size w3 v gs gc L noneG nO 0 noneG nO 0)):SwT (λe w'=>bM (λb=>T b\/w.heap.size<=b) w' e (aj i (m:Int) x)/\Below w.heap.size w w') m w w3 w4 w7 w11 wp:=by
 have HKK:=aa hk;clear hk;have HK:=aa K;have HX:=aa hx;have h60:=K.lens.2.1;have n0:(0:Int)<=(m:Int):=K.a0;have n1:(m:Int) < (c.length:Int):=K.a1;have hm:m < c.length:=by omega
 have w61:(m:Int)<=60:=by omega
 clear K hx;refine fG rfl λz0 z2 z4 u=> ?_;simp only[j2,j2.loop,j6];obtain⟨BP,PP,XP,IP,YP,OP,AP,EP,TP,GAI,GBI,GOW,YW,-,EPV0,-,o2,o3,o4,o5,o6⟩:=SP.out;have EPV:=aa EPV0;clear EPV0;have i0:=IP.1 0 _ rfl;rw[HKK.out] at i0;obtain⟨kt,ekt,hktx⟩:=HK.out.varTo (by rw[HKK.out];rfl);have HKT:=aa ekt;clear ekt;have hn14:=(bX HK.out.one).2.2.2.2.2.2.2.2 HKK.out;have hwn:IntKind.i64.wrap (-i.n)= -i.n:=by rw[IntKind.wrap_i64];omega
 obtain⟨gg,hgg⟩:∃g:Gs,g=⟨false,⟨false,-i.n,i.n⟩,false,false,[]⟩:=⟨_,rfl⟩;obtain⟨ss,hss⟩:∃a:oA,a=none:=⟨_,rfl⟩;obtain⟨cp,hcp⟩:∃a:Nat,a=0:=⟨_,rfl⟩;have HGS:Hid (gg.s=[]):=by show _=_;simp[hgg,cE]
 have HST:Hid (aj i (m:Int) x=if ag gg then([],false,false) else([⟨(m:Int)+1,aO x i.tgt gg⟩],false,false)):=by show _=_;rw[hgg];simp[aj,aN,HK.out.kx.none,HKK.out]
 have hng:Hid (ag gg=false):=by
  show _=_;rw[hgg];simp[ag,aG,cE]
 have HGG:=aa (And.intro hgg (And.intro hss hcp));clear hgg hss hcp;have z1:=TP.1 1 _ rfl;have fz1:=TP.2.2 1;have z2:=TP.1 2 _ rfl;have fz2:=TP.2.2 2;have z3:=TP.1 3 _ rfl;have fz3:=TP.2.2 3;have i4:=IP.1 4 _ rfl
 go_upto_region 84 with fail
 clear z1 fz1 z2 fz2 z3 fz3 i4;obtain⟨wx,ewx⟩:∃q,q=bm wp (w11.heap.size) 1 [Bb false,I Y (-i.n),I Y i.n]:=⟨_,rfl⟩;have PU:=bE TP 1 _ ewx;exact iM
theorem Ht {T:Nat->Prop}{V F:Int}{s:oA}{c:List Ins}{cap m:Nat}{i:Ins}{x:Pic}{vs:oA}{vc:Nat}{fs:oA}{fc:Nat}{w:World}{w3 w4 w7 w11 wp:World}{v:Ro}{gs:oA}{gc:Nat}{L:List Ro}(hx:PicOn T w x vs fs)(K:SCtx V F c x vc fc i (m:Int))(hk:i.k=3)(SP:Hid (SPre T V F s c cap (m:Int) i x vs vc fs fc w wp (w.heap.size+1+1) w3.heap.size w4.heap.size w7.heap.size (w7.heap.size+1) w11.heap.size w3 v gs gc L noneG nO 0 noneG nO 0)):SwT (λe w'=>bM (λb=>T b\/w.heap.size<=b) w' e (aj i (m:Int) x)/\Below w.heap.size w w') m w w3 w4 w7 w11 wp:=by
 have HKK:=aa hk;clear hk;have HK:=aa K;have HX:=aa hx;have h60:=K.lens.2.1;have n0:(0:Int)<=(m:Int):=K.a0;have n1:(m:Int) < (c.length:Int):=K.a1;have hm:m < c.length:=by omega
 have w61:(m:Int)<=60:=by omega
 clear K hx;refine fG rfl λz0 z2 z4 u=> ?_;simp only[j2,j2.loop,j6];obtain⟨BP,PP,XP,IP,YP,OP,AP,EP,TP,GAI,GBI,GOW,YW,-,EPV0,-,o2,o3,o4,o5,o6⟩:=SP.out;have EPV:=aa EPV0;clear EPV0;have i0:=IP.1 0 _ rfl;rw[HKK.out] at i0;obtain⟨kt,ekt,hktx⟩:=HK.out.varTo (by rw[HKK.out];rfl);have HKT:=aa ekt;clear ekt;obtain⟨gg,hgg⟩:∃g:Gs,g=cE:=⟨_,rfl⟩;obtain⟨ss,hss⟩:∃a:oA,a=none:=⟨_,rfl⟩;obtain⟨cp,hcp⟩:∃a:Nat,a=0:=⟨_,rfl⟩;have HGS:Hid (gg.s=[]):=by show _=_;simp[hgg,cE]
 have HST:Hid (aj i (m:Int) x=if ag gg then([],false,false) else([⟨(m:Int)+1,aO x i.tgt gg⟩],false,false)):=by show _=_;rw[hgg];simp[aj,aN,HK.out.kx.none,HKK.out]
 have hng:Hid (ag gg=false):=by
  show _=_;rw[hgg];simp[ag,aG,cE]
 have HGG:=aa (And.intro hgg (And.intro hss hcp));clear hgg hss hcp;have z0:=TP.1 0 _ rfl;have fz0:=TP.2.2 0
 go_upto_region 84 with fail
 clear z0 fz0;obtain⟨wx,ewx⟩:∃q,q=bm wp (w11.heap.size) 0 [Bb true]:=⟨_,rfl⟩;have PU:=bE TP 0 _ ewx;exact iM
theorem Ip {T:Nat->Prop}{V F:Int}{s:oA}{c:List Ins}{cap m:Nat}{i:Ins}{x:Pic}{vs:oA}{vc:Nat}{fs:oA}{fc:Nat}{w:World}{w3 w4 w7 w11 wp:World}{v:Ro}{gs:oA}{gc:Nat}{L:List Ro}(hx:PicOn T w x vs fs)(K:SCtx V F c x vc fc i (m:Int))(hk:i.k=2)(SP:Hid (SPre T V F s c cap (m:Int) i x vs vc fs fc w wp (w.heap.size+1+1) w3.heap.size w4.heap.size w7.heap.size (w7.heap.size+1) w11.heap.size w3 v gs gc L noneG nO 0 noneG nO 0)):SwT (λe w'=>bM (λb=>T b\/w.heap.size<=b) w' e (aj i (m:Int) x)/\Below w.heap.size w w') m w w3 w4 w7 w11 wp:=by
 have HKK:=aa hk;clear hk;have HK:=aa K;have HX:=aa hx;have h60:=K.lens.2.1;have n0:(0:Int)<=(m:Int):=K.a0;have n1:(m:Int) < (c.length:Int):=K.a1;have hm:m < c.length:=by omega
 have w61:(m:Int)<=60:=by omega
 clear K hx;refine fG rfl λz0 z2 z4 u=> ?_;simp only[j2,j2.loop,j6];obtain⟨BP,PP,XP,IP,YP,OP,AP,EP,TP,GAI,GBI,GOW,YW,-,EPV0,-,o2,o3,o4,o5,o6⟩:=SP.out;have EPV:=aa EPV0;clear EPV0;have i0:=IP.1 0 _ rfl;rw[HKK.out] at i0;obtain⟨kt,ekt,hktx⟩:=HK.out.varTo (by rw[HKK.out];rfl);have HKT:=aa ekt;clear ekt;have hn2:=(bX HK.out.one).2.2.2.2.2.2.2.1 HKK.out;obtain⟨gg,hgg⟩:∃g:Gs,g=⟨false,⟨true,0,0⟩,decide (i.n=1),decide (i.n=0),[]⟩:=⟨_,rfl⟩;obtain⟨ss,hss⟩:∃a:oA,a=none:=⟨_,rfl⟩;obtain⟨cp,hcp⟩:∃a:Nat,a=0:=⟨_,rfl⟩;have HGS:Hid (gg.s=[]):=by show _=_;simp[hgg,cE]
 have HST:Hid (aj i (m:Int) x=if ag gg then([],false,false) else([⟨(m:Int)+1,aO x i.tgt gg⟩],false,false)):=by show _=_;rw[hgg];simp[aj,aN,HK.out.kx.none,HKK.out]
 have hng:Hid (ag gg=false):=by
  show _=_;rw[hgg];rcases hn2 with h|h<;>simp[ag,aG,h]
 have HGG:=aa (And.intro hgg (And.intro hss hcp));clear hgg hss hcp hn2;have hdr:Below wp.heap.size wp wp.drew:=(bR _ _).drew;have TQ:=TP.call hdr;have IQ:=IP.call hdr;have YQ:=YP.call hdr;have OQ:=OP.call hdr;have BQ:=BP.trans (hdr.mono BP.size);have YWQ:=YW.trans (hdr.mono YW.size);clear TP IP YP OP BP YW hdr PP XP AP EP
 go_upto_region 81 with fail
 refine aw (S:=(λwx=>wx.cell? ⟨w.heap.size+1+1,4,nO⟩=sO (I Y i.n))) [9] (by kernel_rfl) (IQ.1 4 _ rfl) (λhHeld=> ?_);generalize wp.drew=wq at *;refine vZ 0 ?_ ?_;refine vZ 1 ?_ ?_;refine vZ 2 ?_ ?_;refine vZ 3 ?_ ?_;refine vZ 4 ?_ ?_;refine vZ 5 ?_ ?_;refine vZ 6 ?_ ?_;refine am (i:=7) rfl (by kernel_rfl) (λK hK=> ?_);have z4:=TQ.1 4 _ rfl;have fz4:=TQ.2.2 4;go_simp;refine hK.out _ _ ?_ (λhHeld=> ?_)
 ·have h:Cells (wq.setCell ⟨w11.heap.size,4,nO⟩ (Bb (i.n==1))) (w.heap.size+1+1) _:=IQ.same (hSe _ _ _ _ (by simp only;omega)) (by simp[j7])
  exact h.1 4 _ rfl
 clear hK K z4 fz4;refine sm ?_;have TQ4:=TQ.put 4 (by simp) (Bb (i.n==1));refine vZ 8 ?_ ?_;refine bo (i:=9) rfl (by kernel_rfl) (by kernel_rfl) (λK hK=> ?_);have z5:=TQ4.1 5 _ rfl;have fz5:=TQ4.2.2 5;go_simp;refine hK.out _ _ ?_;clear hK K z5 fz5;refine sm ?_;refine ap (by kernel_rfl) ?_ _;clear TQ4;generalize wq=wp at *;have TP:=TQ;have IP:=IQ;have YP:=YQ;have OP:=OQ;have BP:=BQ;have YW:=YWQ;clear TQ IQ YQ OQ BQ YWQ
 go_upto_region 84 with fail
 obtain⟨wx,ewx⟩:∃q,q=bm wp (w11.heap.size) 4 [Bb (i.n==1),Bb (i.n==0)]:=⟨_,rfl⟩;have PU:=bE TP 4 _ ewx;exact iM
end
section
open Go.RowKit
theorem iH {c:List Ins}{g h:Gs}(h60:c.length<=60)(hg:aq c g=0)(hh:aq c h=0):cS aU g h=ae false g h:=by
 have a:=cI h60 hg;have b:=cI h60 hh;have e:cq [g,h]=fV g.s h.s:=iN g h a.1 b.1;unfold cS ae;rw[e];rfl
theorem ou {x:Pic}{n:Int}{b:Gs}{l:List Int}{j:Nat}(h:j < l.length):cW x n b (l.take (j+1))=mW (cW x n b (l.take j)) l[j] n (ae false (fAt (cW x n b (l.take j)) l[j] n) b):=by
 unfold cW;rw[x3 h,List.foldl_append];rfl
theorem sJ {n:Bool}{v:Ro}{L:List Ro}{m p:Nat}{z:Gc}(hm:m < L.length):aL n v (L.set m ⟨L[m].rs,L[m].rc,L[m].l.set p z⟩)=mW (aL n v L) (m:Int) (p:Int) z.g:=by
 unfold aL mW;simp only[j9,Int.toNat_natCast];congr 1;refine x4 λq=> ?_;rw[x5,x6];by_cases e:m=q
 ·subst e
  simp[hm,roG,j9]
 ·simp[e]
theorem kv {n:Bool}{v:Ro}{L:List Ro}{m p:Nat}(hm:m < L.length)(hp:p < L[m].l.length):fAt (aL n v L) (m:Int) (p:Int)=L[m].l[p].g:=by
 unfold fAt aL roG;simp[List.getD,hm,hp]
theorem uk {V F:Int}{c:List Ins}{n:Bool}{v:Ro}{L:List Ro}(h:PicOk V F c (aL n v L)):L.length=c.length/\∀m (hm:m < L.length),(L[m].l.length:Int)=F:=by
 refine⟨by simpa[aL] using h.flds,λm hm=> ?_⟩;have:=h.row m (by simpa[aL] using hm);simpa[aL,roG] using this
theorem Gp {v:Ro}{fb:Option Nat}{L:List Ro}{m q:Nat}{l:List Gc}(hm:m < L.length)(hl:l.length=L[m].l.length):Off v fb (L.set m ⟨L[m].rs,L[m].rc,l⟩) q↔Off v fb L q:=by
 have e:(L.set m ⟨L[m].rs,L[m].rc,l⟩).map roB=L.map roB:=by
  rw[j9,ge (v:=L[m]) hl,<-x7 (f:=roB) (h:=by simpa using hm),q9]
 have:(∀r∈L.set m ⟨L[m].rs,L[m].rc,l⟩,roB r≠sO q)↔∀r∈L,roB r≠sO q:=by
  have h1:∀l:List Ro,(∀r∈l,roB r≠sO q)↔∀o∈l.map roB,o≠sO q:=λl=>by simp
  rw[h1,h1,e]
 unfold Off;rw[this]
theorem Fi {n sb H:Nat}{eb:Option Nat}{w w':World}{xb:Nat}{v:Ro}{gs:oA}{gc:Nat}{L:List Ro}{y:Gc}(hi:IntsAt w' y.ss y.g.s)(hf:∀a,y.ss=sO a->w.heap.size<=a.block)(h1:y.g.s.length<=y.cap)(h2:y.cap<=maxLen)(G:PicG (ClT n sb eb xb) H w v gs gc L)(hx:xb < w.heap.size)(hs:sb < w.heap.size)(hn:n<=w.heap.size)(he:∀b,eb=sO b->b < w.heap.size):bH (λb=>ClT n sb eb xb b/\Off v (j3 gs L.length gc).ownBlock L b) w' y:=by
 refine⟨?_,h1,h2⟩;rcases hi with hi|⟨b,off,e,hb,hc⟩
 ·exact .inl hi
 ·have hz:w.heap.size<=b:=hf _ e
  refine .inr ⟨b,off,e,⟨⟨by omega,by omega,by omega,λe=>by have:=he _ e;omega⟩,λe=> ?_,λe=> ?_,λr hr e=> ?_⟩,hb,hc⟩
  ·have:=(G.vars.lt e).1;omega
  ·have:=(aH G.flds e).1;omega
  ·have:=((G.rows r hr).lt e).1;omega
end
section
open Go.RowKit
attribute [local go_sem ↓] Go.wp_at_zero Go.wp_at_succ
theorem Dm (a:Array Value)(wx:World):Sem.run pG (callFunc 162 a) wx=.ok (.enter 162 a) wx:=by kernel_rfl
theorem Fu (n:Nat)(ta:Int)(x':Pic)(gb pb:Nat):type_of% (eJ 162 #[Pp (sO ⟨gb,0,nO⟩),Pp (sO ⟨pb,0,nO⟩)] (λp=>#[p,Pp (sO ⟨gb,0,nO⟩),Pp (sO ⟨pb,0,nO⟩)]) (λ_=>rfl) Dm n ta x'):=eJ 162 #[Pp (sO ⟨gb,0,nO⟩),Pp (sO ⟨pb,0,nO⟩)] (λp=>#[p,Pp (sO ⟨gb,0,nO⟩),Pp (sO ⟨pb,0,nO⟩)]) (λ_=>rfl) Dm n ta x'
theorem Dg (a:Array Value)(wx:World):Sem.run pG (callFunc 153 a) wx=.ok (.enter 153 a) wx:=by kernel_rfl
theorem Fc (n:Nat)(ta:Int)(x':Pic)(pb:Nat):type_of% (eJ 153 #[Pp (sO ⟨pb,0,nO⟩)] (λp=>#[p,Pp (sO ⟨pb,0,nO⟩)]) (λ_=>rfl) Dg n ta x'):=eJ 153 #[Pp (sO ⟨pb,0,nO⟩)] (λp=>#[p,Pp (sO ⟨pb,0,nO⟩)]) (λ_=>rfl) Dg n ta x'
theorem Di (a:Array Value)(wx:World):Sem.run pG (callFunc 155 a) wx=.ok (.enter 155 a) wx:=by kernel_rfl
theorem FV (n:Nat)(ta:Int)(x':Pic)(tb pb:Nat):type_of% (eJ 155 #[Pp (sO ⟨tb,0,nO⟩),Pp (sO ⟨pb,0,nO⟩)] (λp=>#[p,Pp (sO ⟨tb,0,nO⟩),Pp (sO ⟨pb,0,nO⟩)]) (λ_=>rfl) Di n ta x'):=eJ 155 #[Pp (sO ⟨tb,0,nO⟩),Pp (sO ⟨pb,0,nO⟩)] (λp=>#[p,Pp (sO ⟨tb,0,nO⟩),Pp (sO ⟨pb,0,nO⟩)]) (λ_=>rfl) Di n ta x'
theorem Er (a:Array Value)(wx:World):Sem.run pG (callFunc 156 a) wx=.ok (.enter 156 a) wx:=by kernel_rfl
theorem Fh (n:Nat)(ta:Int)(x':Pic)(pb:Nat):type_of% (eJ 156 #[Pp (sO ⟨pb,0,nO⟩)] (λp=>#[p,Pp (sO ⟨pb,0,nO⟩)]) (λ_=>rfl) Er n ta x'):=eJ 156 #[Pp (sO ⟨pb,0,nO⟩)] (λp=>#[p,Pp (sO ⟨pb,0,nO⟩)]) (λ_=>rfl) Er n ta x'
theorem GT (a:Array Value)(wx:World):Sem.run pG (callFunc 158 a) wx=.ok (.enter 158 a) wx:=by kernel_rfl
theorem ID (n:Nat)(ta:Int)(x':Pic)(pb:Nat):type_of% (eJ 158 #[Pp (sO ⟨pb,0,nO⟩)] (λp=>#[p,Pp (sO ⟨pb,0,nO⟩)]) (λ_=>rfl) GT n ta x'):=eJ 158 #[Pp (sO ⟨pb,0,nO⟩)] (λp=>#[p,Pp (sO ⟨pb,0,nO⟩)]) (λ_=>rfl) GT n ta x'
theorem CZ {s:Sp}:au s ⟨false,0,0⟩=if s.has 0 then⟨false,0,0⟩ else⟨true,0,0⟩:=by
 obtain⟨n,lo,hi⟩:=s;cases n with
 |true=>simp[au,Sp.has]
 |false=>
  by_cases h1:lo<=0
  ·by_cases h2:0<=hi
   ·have e1:min hi 0=0:=by omega
    have e2:max lo 0=0:=by omega
    simp[au,Sp.has,h1,h2,e1,e2]
   ·have e3:min hi 0 < max lo 0:=by omega
    simp[au,Sp.has,h2,e3]
  ·have e3:min hi 0 < max lo 0:=by omega
   simp[au,Sp.has,h1,e3]
theorem up {n:Bool}{v:Ro}{L:List Ro}{k:Nat}(hk:k < v.l.length):gAt (aL n v L) (k:Int)=v.l[k].g:=by
 unfold gAt aL roG;simp[List.getD,hk]
theorem Kj (n sb:Nat)(eb:Option Nat)(i:Ins)(V F:Int)(s:oA)(c:List Ins)(cap:Nat)(at_:Int)(x:Pic)(vs:oA)(vc:Nat)(fs:oA)(fc:Nat)(ev:Value)(wr fl:Bool)(pb:Nat)(w:World)(hS:Cells w sb (aM i V F s c cap at_ x vs vc fs fc ev wr fl))(hP:Cells w pb [Pp (sO ⟨sb,0,nO⟩)])(hsp:(gAt x i.a).sp.Ok)(hk:∃k:Nat,i.a=k/\k < x.vars.length):
  fD 156 (λp=>#[p,Pp (sO ⟨pb,0,nO⟩)]) n sb eb w x (aO x i.a (bk (gAt x i.a))):=by
 intro wx xb v gs gcc L hb0 hp;obtain⟨zxb,A0,G0,OF,EX⟩:=hp;have hdr:Below wx.heap.size wx wx.drew:=(bR _ _).drew;have hb:=hb0.drew;have A:=A0.call hdr;have G:=G0.call hdr;have hbd:Below w.heap.size wx wx.drew:=hdr.mono (lT hb0.size (lR _));have hsz:Hid (w.heap.size<=wx.heap.size):=hb0.size;clear hb0 A0 G0 hdr;obtain⟨k,ek,hkx⟩:=hk;have hkv:k < v.l.length:=by rw[<-EX] at hkx;simpa[aL,roG] using hkx
 have ega:gAt x i.a=v.l[k].g:=by rw[<-EX,ek,up hkv]
 obtain⟨vb,evb,eb1,hvb,zvb⟩:=G.vars.form (by omega);have nxv:xb≠vb:=λe=>OF.1 (by rw[eb1,e]);have n0:(0:Int)<=(k:Int):=by omega
 have n1:(k:Int) < (v.l.length:Int):=by omega
 have A1:=A.1 1 _ rfl;rw[evb] at A1;have S1:=(hS.call hb).1 2 _ rfl;rw[ek] at S1;have P1:=(hP.call hb).1 0 _ rfl;have HKZ:Hid (wx.drew.cell? ⟨xb,1,nO⟩=sO (U (sO ⟨vb,0,nO⟩) v.l.length v.rc)/\wx.drew.cell? ⟨pb,0,nO⟩=sO (Pp (sO ⟨sb,0,nO⟩))/\wx.drew.cell? ⟨sb,2,nO⟩=sO (I Y (k:Int))):=⟨A1,P1,S1⟩;have HOK:Hid (v.l[k].g.sp.Ok):=by show _;rw[<-ega];exact hsp
 clear A1 S1 P1 hS hP hsp;go_enter Tryz.func156,Tryz.ntmps156
 go_upto_region 0 with fail
 refine aw (S:=(λwx=>wx.cell? ⟨xb,1,nO⟩=sO (U (sO ⟨vb,0,nO⟩) v.l.length v.rc)/\wx.cell? ⟨pb,0,nO⟩=sO (Pp (sO ⟨sb,0,nO⟩))/\wx.cell? ⟨sb,2,nO⟩=sO (I Y (k:Int)))) [] (by kernel_rfl) HKZ.out (λhHeld=> ?_);generalize wx.drew=wq at *;refine vZ 0 ?_ ?_;refine vZ 1 ?_ ?_;refine vZ 2 ?_ ?_;refine vZ 3 ?_ ?_;refine vZ 4 ?_ ?_;refine vZ 5 ?_ ?_;refine vZ 6 ?_ ?_;refine vZ 7 ?_ ?_;refine vZ 8 ?_ ?_;refine vZ 9 ?_ ?_;refine vZ 10 ?_ ?_;refine ap (by kernel_rfl) ?_ _;have GU:=G.vars.gu evb hkv;obtain⟨⟨q0,q1,q2,q3,q4,q5,q6⟩,qz⟩:=id GU;go_wp2_with (go_at_call 157;fail);refine(sI v.l[k].g.sp wq HOK.out).mono ?_;rintro e w2 ⟨rfl,hb2⟩;have h:=G.call hb2;have A2:=A.call hb2;have hbw:=hbd.trans (hb2.mono (by have:=hb.size;omega))
 clear q0 q1 q2 q3 q4 q5 q6 qz GU G A hb2 hbd;have GU:=h.vars.gu evb hkv;have TH:=aa (h.vars.thaw evb);obtain⟨⟨q0,q1,q2,q3,q4,q5,q6⟩,qz⟩:=id GU;have f0:=TH.out (k * 7);have f1:=TH.out (k * 7+1);have f2:=TH.out (k * 7+2);have f3:=TH.out (k * 7+3);have f5:=TH.out (k * 7+5);have nb:¬(λq=>ClT n sb eb xb q/\Off v (j3 gs L.length gcc).ownBlock L q) vb:=λq=>q.2.1 eb1;have gy:=h.sv _ (gM hkv);have h0:PicG (ClT n sb eb xb) w.heap.size w2 ⟨v.rs,v.rc,v.l.set k v.l[k]⟩ gs gcc L:=by rw[q9];exact h
 have h1:=h.cellV evb hkv h0 (j:=0) (u:=Bb false) (z:=⟨⟨false,v.l[k].g.sp,v.l[k].g.t,v.l[k].g.f,v.l[k].g.s⟩,v.l[k].ss,v.l[k].cap⟩) (by omega) (by rfl) gy;have h2:=h.cellV evb hkv h1 (j:=5) (u:=Bb false) (z:=⟨⟨false,v.l[k].g.sp,v.l[k].g.t,false,v.l[k].g.s⟩,v.l[k].ss,v.l[k].cap⟩) (by omega) (by rfl) (aC gy nb);have h3:=h.cellV evb hkv h2 (j:=1) (u:=Bb (bI v.l[k].g.sp).n) (z:=⟨⟨false,⟨(bI v.l[k].g.sp).n,v.l[k].g.sp.lo,v.l[k].g.sp.hi⟩,v.l[k].g.t,false,v.l[k].g.s⟩,v.l[k].ss,v.l[k].cap⟩) (by omega) (by rfl) (aC (aC gy nb) nb);have h4:=h.cellV evb hkv h3 (j:=2) (u:=I Y (bI v.l[k].g.sp).lo) (z:=⟨⟨false,⟨(bI v.l[k].g.sp).n,(bI v.l[k].g.sp).lo,v.l[k].g.sp.hi⟩,v.l[k].g.t,false,v.l[k].g.s⟩,v.l[k].ss,v.l[k].cap⟩) (by omega) (by rfl) (aC (aC (aC gy nb) nb) nb);have h5:=h.cellV evb hkv h4 (j:=3) (u:=I Y (bI v.l[k].g.sp).hi) (z:=⟨⟨false,⟨(bI v.l[k].g.sp).n,(bI v.l[k].g.sp).lo,(bI v.l[k].g.sp).hi⟩,v.l[k].g.t,false,v.l[k].g.s⟩,v.l[k].ss,v.l[k].cap⟩) (by omega) (by rfl) (aC (aC (aC (aC gy nb) nb) nb) nb);have HPOST:Hid (∃v' gs' gc' L',kC n sb eb w.heap.size (((((w2.setCell ⟨vb,k * 7,nO⟩ (Bb false)).setCell ⟨vb,k * 7+5,nO⟩ (Bb false)).setCell ⟨vb,k * 7+1,nO⟩ (Bb (bI v.l[k].g.sp).n)).setCell ⟨vb,k * 7+2,nO⟩ (I Y (bI v.l[k].g.sp).lo)).setCell ⟨vb,k * 7+3,nO⟩ (I Y (bI v.l[k].g.sp).hi)) xb v' gs' gc' L' (aO x i.a (bk (gAt x i.a)))):=by
  refine⟨⟨v.rs,v.rc,v.l.set k ⟨bk v.l[k].g,v.l[k].ss,v.l[k].cap⟩⟩,gs,gcc,L,zxb,?_,h5,(Off.same (ge (by simp))).2 OF,?_⟩
  ·simp only[q7]
   exact((((A2.far nxv _).far nxv _).far nxv _).far nxv _).far nxv _
  ·rw[dA,EX,ek,<-ek,ega]
 have HBEL:Hid (Below w.heap.size wx (((((w2.setCell ⟨vb,k * 7,nO⟩ (Bb false)).setCell ⟨vb,k * 7+5,nO⟩ (Bb false)).setCell ⟨vb,k * 7+1,nO⟩ (Bb (bI v.l[k].g.sp).n)).setCell ⟨vb,k * 7+2,nO⟩ (I Y (bI v.l[k].g.sp).lo)).setCell ⟨vb,k * 7+3,nO⟩ (I Y (bI v.l[k].g.sp).hi))):=((((hbw.setCell hvb _).setCell hvb _).setCell hvb _).setCell hvb _).setCell hvb _;clear h0 h1 h2 h3 h4 h5 h gy nb A2 GU hbw EX OF ega ek;go_wp2
 first|go_end0|refine bodyPost_ret (results_none rfl _ _ _) rfl ?_
 exact⟨rfl,HPOST.out,HBEL.out⟩
theorem KK (n sb:Nat)(eb:Option Nat)(i:Ins)(V F:Int)(s:oA)(c:List Ins)(cap:Nat)(at_:Int)(x:Pic)(vs:oA)(vc:Nat)(fs:oA)(fc:Nat)(ev:Value)(wr fl:Bool)(pb:Nat)(w:World)(hS:Cells w sb (aM i V F s c cap at_ x vs vc fs fc ev wr fl))(hP:Cells w pb [Pp (sO ⟨sb,0,nO⟩)])(hsp:(gAt x i.a).sp.Ok)(hk:∃k:Nat,i.a=k/\k < x.vars.length):
  fD 158 (λp=>#[p,Pp (sO ⟨pb,0,nO⟩)]) n sb eb w x (aO x i.a (bQ (gAt x i.a))):=by
 intro wx xb v gs gcc L hb0 hp;obtain⟨zxb,A0,G0,OF,EX⟩:=hp;have hdr:Below wx.heap.size wx wx.drew:=(bR _ _).drew;have hb:=hb0.drew;have A:=A0.call hdr;have G:=G0.call hdr;have hbd:Below w.heap.size wx wx.drew:=hdr.mono (lT hb0.size (lR _));have hsz:Hid (w.heap.size<=wx.heap.size):=hb0.size;clear hb0 A0 G0 hdr;obtain⟨k,ek,hkx⟩:=hk;have hkv:k < v.l.length:=by rw[<-EX] at hkx;simpa[aL,roG] using hkx
 have ega:gAt x i.a=v.l[k].g:=by rw[<-EX,ek,up hkv]
 obtain⟨vb,evb,eb1,hvb,zvb⟩:=G.vars.form (by omega);have nxv:xb≠vb:=λe=>OF.1 (by rw[eb1,e]);have n0:(0:Int)<=(k:Int):=by omega
 have n1:(k:Int) < (v.l.length:Int):=by omega
 have A1:=A.1 1 _ rfl;rw[evb] at A1;have S1:=(hS.call hb).1 2 _ rfl;rw[ek] at S1;have P1:=(hP.call hb).1 0 _ rfl;have HKZ:Hid (wx.drew.cell? ⟨xb,1,nO⟩=sO (U (sO ⟨vb,0,nO⟩) v.l.length v.rc)/\wx.drew.cell? ⟨pb,0,nO⟩=sO (Pp (sO ⟨sb,0,nO⟩))/\wx.drew.cell? ⟨sb,2,nO⟩=sO (I Y (k:Int))):=⟨A1,P1,S1⟩;have HOK:Hid (v.l[k].g.sp.Ok):=by show _;rw[<-ega];exact hsp
 clear A1 S1 P1 hS hP hsp;go_enter Tryz.func158,Tryz.ntmps158
 go_upto_region 0 with fail
 refine aw (S:=(λwx=>wx.cell? ⟨xb,1,nO⟩=sO (U (sO ⟨vb,0,nO⟩) v.l.length v.rc)/\wx.cell? ⟨pb,0,nO⟩=sO (Pp (sO ⟨sb,0,nO⟩))/\wx.cell? ⟨sb,2,nO⟩=sO (I Y (k:Int)))) [] (by kernel_rfl) HKZ.out (λhHeld=> ?_);generalize wx.drew=wq at *;refine vZ 0 ?_ ?_;refine vZ 1 ?_ ?_;refine vZ 2 ?_ ?_;refine vZ 3 ?_ ?_;refine vZ 4 ?_ ?_;refine vZ 5 ?_ ?_;refine vZ 6 ?_ ?_;refine vZ 7 ?_ ?_;refine vZ 8 ?_ ?_;refine vZ 9 ?_ ?_;refine vZ 10 ?_ ?_;refine ap (by kernel_rfl) ?_ _;have h:=G;have GU:=h.vars.gu evb hkv;have TH:=aa (h.vars.thaw evb);obtain⟨⟨q0,q1,q2,q3,q4,q5,q6⟩,qz⟩:=id GU;have f4:=TH.out (k * 7+4);have f6:=TH.out (k * 7+6);have nb:¬(λq=>ClT n sb eb xb q/\Off v (j3 gs L.length gcc).ownBlock L q) vb:=λq=>q.2.1 eb1;have gy:=h.sv _ (gM hkv);have gn:bH (λq=>ClT n sb eb xb q/\Off v (j3 gs L.length gcc).ownBlock L q) wq (⟨⟨v.l[k].g.n,v.l[k].g.sp,false,v.l[k].g.f,[]⟩,nO,0⟩:Gc):=⟨.inl rfl,lR _,j4 _⟩;have h0:PicG (ClT n sb eb xb) w.heap.size wq ⟨v.rs,v.rc,v.l.set k v.l[k]⟩ gs gcc L:=by rw[q9];exact h
 have h1:=h.cellV evb hkv h0 (j:=4) (u:=Bb false) (z:=⟨⟨v.l[k].g.n,v.l[k].g.sp,false,v.l[k].g.f,v.l[k].g.s⟩,v.l[k].ss,v.l[k].cap⟩) (by omega) (by rfl) gy;have h2:=h.cellV evb hkv h1 (j:=6) (u:=U nO 0 0) (z:=⟨⟨v.l[k].g.n,v.l[k].g.sp,false,v.l[k].g.f,[]⟩,nO,0⟩) (by omega) (by rfl) (aC gn nb);have hbw:Below w.heap.size wx ((wq.setCell ⟨vb,k * 7+4,nO⟩ (Bb false)).setCell ⟨vb,k * 7+6,nO⟩ (U nO 0 0)):=(hbd.setCell hvb _).setCell hvb _;have A2:=(A.far nxv (Bb false) (a:=⟨vb,k * 7+4,nO⟩)).far nxv (U nO 0 0) (a:=⟨vb,k * 7+6,nO⟩);clear GU hbd gy gn h1 h0 A G;have HH:=aa (And.intro h2 (And.intro hbw A2));clear h2 hbw A2
 go_upto_region 2 with fail
 generalize eW:((wq.setCell ⟨vb,k * 7+4,nO⟩ (Bb false)).setCell ⟨vb,k * 7+6,nO⟩ (U nO 0 0))=w1 at *;obtain⟨h2,hbw,A2⟩:=HH.out;clear q0 q1 q2 q3 q4 q5 q6 qz TH f4 f6 HH eW;have GU:=h2.vars.gu (b:=vb) evb (k:=k) (by simpa using hkv);simp only[x8] at GU;obtain⟨⟨q0,q1,q2,q3,q4,q5,q6⟩,qz⟩:=id GU;go_wp2_with (go_at_call 159;fail);refine(ix v.l[k].g.sp ⟨false,0,0⟩ w1).mono ?_;rintro e w2 ⟨rfl,hb2⟩;have eok:bl v.l[k].g.sp ⟨false,0,0⟩=0:=ckSps_ok.2 ⟨HOK.out,by simp[Sp.Ok,aS]⟩;rw[eok];have h3:=h2.call hb2;have A3:=A2.call hb2;have hbw2:=hbw.trans (hb2.mono (lT hsz.out hbw.size));clear q0 q1 q2 q3 q4 q5 q6 qz GU A2 hb2 hbw h2 eok;have GU:=h3.vars.gu (b:=vb) evb (k:=k) (by simpa using hkv);simp only[x8] at GU;have TH:=aa (h3.vars.thaw (b:=vb) evb);obtain⟨⟨q0,q1,q2,q3,q4,q5,q6⟩,qz⟩:=id GU;have f1:=TH.out (k * 7+1);have f2:=TH.out (k * 7+2);have f3:=TH.out (k * 7+3);have gm:bH (λq=>ClT n sb eb xb q/\Off v (j3 gs L.length gcc).ownBlock L q) w2 (⟨⟨v.l[k].g.n,v.l[k].g.sp,false,v.l[k].g.f,[]⟩,nO,0⟩:Gc):=⟨.inl rfl,lR _,j4 _⟩;have h4:=h.cellV evb hkv h3 (j:=1) (u:=Bb (au v.l[k].g.sp ⟨false,0,0⟩).n) (z:=⟨⟨v.l[k].g.n,⟨(au v.l[k].g.sp ⟨false,0,0⟩).n,v.l[k].g.sp.lo,v.l[k].g.sp.hi⟩,false,v.l[k].g.f,[]⟩,nO,0⟩) (by omega) (by rfl) gm;have h5:=h.cellV evb hkv h4 (j:=2) (u:=I Y (au v.l[k].g.sp ⟨false,0,0⟩).lo) (z:=⟨⟨v.l[k].g.n,⟨(au v.l[k].g.sp ⟨false,0,0⟩).n,(au v.l[k].g.sp ⟨false,0,0⟩).lo,v.l[k].g.sp.hi⟩,false,v.l[k].g.f,[]⟩,nO,0⟩) (by omega) (by rfl) (aC gm nb);have h6:=h.cellV evb hkv h5 (j:=3) (u:=I Y (au v.l[k].g.sp ⟨false,0,0⟩).hi) (z:=⟨⟨v.l[k].g.n,⟨(au v.l[k].g.sp ⟨false,0,0⟩).n,(au v.l[k].g.sp ⟨false,0,0⟩).lo,(au v.l[k].g.sp ⟨false,0,0⟩).hi⟩,false,v.l[k].g.f,[]⟩,nO,0⟩) (by omega) (by rfl) (aC (aC gm nb) nb);have HPOST:Hid (∃v' gs' gc' L',kC n sb eb w.heap.size (((w2.setCell ⟨vb,k * 7+1,nO⟩ (Bb (au v.l[k].g.sp ⟨false,0,0⟩).n)).setCell ⟨vb,k * 7+2,nO⟩ (I Y (au v.l[k].g.sp ⟨false,0,0⟩).lo)).setCell ⟨vb,k * 7+3,nO⟩ (I Y (au v.l[k].g.sp ⟨false,0,0⟩).hi)) xb v' gs' gc' L' (aO x i.a (bQ (gAt x i.a)))):=by
  refine⟨⟨v.rs,v.rc,v.l.set k ⟨bQ v.l[k].g,nO,0⟩⟩,gs,gcc,L,zxb,?_,?_,(Off.same (ge (by simp))).2 OF,?_⟩
  ·simp only[q7]
   exact((A3.far nxv _).far nxv _).far nxv _
  ·have e:bQ v.l[k].g=⟨v.l[k].g.n,(au v.l[k].g.sp ⟨false,0,0⟩),false,v.l[k].g.f,[]⟩:=by rw[CZ];rfl
   rw[e];exact h6
  ·rw[dA,EX,ek,<-ek,ega]
 have HBEL:Hid (Below w.heap.size wx (((w2.setCell ⟨vb,k * 7+1,nO⟩ (Bb (au v.l[k].g.sp ⟨false,0,0⟩).n)).setCell ⟨vb,k * 7+2,nO⟩ (I Y (au v.l[k].g.sp ⟨false,0,0⟩).lo)).setCell ⟨vb,k * 7+3,nO⟩ (I Y (au v.l[k].g.sp ⟨false,0,0⟩).hi))):=((hbw2.setCell hvb _).setCell hvb _).setCell hvb _;clear h3 h4 h5 h6 h gm nb A3 GU hbw2 EX OF ega ek;go_wp2
 first|go_end0|refine bodyPost_ret (results_none rfl _ _ _) rfl ?_
 exact⟨rfl,HPOST.out,HBEL.out⟩
def cn (sb:Nat)(w:World)(cs:Value->List Value)(EL:List Ed)(l:List Edg):Prop:=∃ev QL,Cells w sb (cs ev)/\ERow sb sb w ev (EL++QL)/\QL.map edG=l
theorem SCtx.spA {V F:Int}{c:List Ins}{x:Pic}{vc fc:Nat}{i:Ins}{at_:Int}(K:SCtx V F c x vc fc i at_)(hA:nA i.k=true):(gAt x i.a).sp.Ok:=by
 obtain⟨k,ek,hk⟩:=K.varA hA;rw[ek,dJ hk];exact(ckGs_iff.1 (K.kx.gv _ (gM hk))).1
theorem sh {p:Prop}(h:p:=by
 go_wp2_with (go_at_call 93;fail);refine(HE.out w2 hbw hP2).mono ?_;rintro e w3 ⟨rfl,⟨ev',q,C3,E3,eq3⟩,hb3⟩;have HF:Hid (cn sb w3 (λev'=>aM i V F s c cap at_ x vs vc fs fc ev' wr fl) EL [⟨ta,xx⟩]):=⟨ev',[q],C3,E3,by simp[eq3]⟩;have hbz:Below sb w w3:=(hbw.mono (Nat.le_of_lt hsb)).trans hb3;clear C3 E3 eq3 hb3 hP2 p0 HE HN;go_wp2
 first|go_end0|refine bodyPost_ret (results_none rfl _ _ _) rfl ?_
 exact⟨rfl,HF.out,hbz⟩):p:=h
theorem pB {p:Prop}(h:p:=by
 go_wp2
 first|go_end0|refine bodyPost_ret (results_none rfl _ _ _) rfl ?_
 exact⟨rfl,⟨_,[],HN.out.1.call hbw,by rw[List.append_nil];exact HN.out.2.call hbw,rfl⟩,hbw.mono (Nat.le_of_lt hsb)⟩):p:=h
theorem p8 (ta:Int)(EL:List Ed)(es:oA)(ec:Nat)(sb:Nat)(i:Ins)(V F:Int)(s:oA)(c:List Ins)(cap:Nat)(at_:Int)(x:Pic)(vs:oA)(vc:Nat)(fs:oA)(fc:Nat)(wr fl:Bool)(w0 w:World)(hS:Cells w sb (aM i V F s c cap at_ x vs vc fs fc (U es EL.length ec) wr fl))(hc0:CodeAt w0 s c)(hx0:PicAt w0 x vs fs)(hz0:w0.heap.size<=sb)(hB0:Below w0.heap.size w0 w)(K:SCtx V F c x vc fc i at_)(hER:ERow sb sb w (U es EL.length ec) EL)(hL2:EL.length<=10)(hA:nA i.k=true):
  Calls pG 90 #[Pp (sO ⟨sb,0,nO⟩),I Y ta] w λe w'=>e=Rt (Tu #[])/\cn sb w' (λev'=>aM i V F s c cap at_ x vs vc fs fc ev' wr fl) EL (if bT (gAt x i.a) then [⟨ta,aO x i.a (bk (gAt x i.a))⟩] else [])/\Below sb w w':=by
 have hsb:=hS.2.1;have hb1:Below w.heap.size w (w.alloc (Cc #[Pp (sO ⟨sb,0,nO⟩)] 150)):=by go_grown
 have hP1:Cells (w.alloc (Cc #[Pp (sO ⟨sb,0,nO⟩)] 150)) w.heap.size [Pp (sO ⟨sb,0,nO⟩)]:=Cells.new w 150 [Pp (sO ⟨sb,0,nO⟩)];have HT:Hid (∀wx,Below w.heap.size w wx->Calls pG 95 #[Pp (sO ⟨sb,0,nO⟩)] wx λe w'=>e=Rt (Tu #[Bb (bT (gAt x i.a)),Bb (cA (gAt x i.a))])/\Below wx.heap.size wx w'):=λwx hb=>lX sb i V F s c cap at_ x vs vc fs fc _ wr fl wx (hS.call hb) (hc0.below (hB0.trans (hb.mono hB0.size)) (lR _)) (hx0.below (hB0.trans (hb.mono hB0.size)) (lR _)) K hA;have HE:Hid (∀wx,Below w.heap.size w wx->Cells wx w.heap.size [Pp (sO ⟨sb,0,nO⟩)]->Calls pG 93 #[Pp (sO ⟨sb,0,nO⟩),I Y ta,.func (.func 156) #[] #[Pp (sO ⟨w.heap.size,0,nO⟩)]] wx λe w'=>e=Rt (Tu #[])/\(∃ev' q,Cells w' sb (aM i V F s c cap at_ x vs vc fs fc ev' wr fl)/\ERow sb sb w' ev' (EL++[q])/\edG q=⟨ta,aO x i.a (bk (gAt x i.a))⟩)/\Below sb wx w'):=λwx hb hp=>
  Fh sb ta _ w.heap.size EL es ec sb i V F s c cap at_ x vs vc fs fc wr fl w0 wx (hS.call hb) hc0 hx0 hz0 (hB0.trans (hb.mono hB0.size)) K rfl (hER.call hb) hL2 (Kj sb sb _ i V F s c cap at_ x vs vc fs fc _ wr fl w.heap.size wx (hS.call hb) hp (K.spA hA) (K.varA hA))
 have HN:Hid (Cells w sb (aM i V F s c cap at_ x vs vc fs fc (U es EL.length ec) wr fl)/\ERow sb sb w (U es EL.length ec) EL):=⟨hS,hER⟩;clear hS hER hc0 hx0 hB0 K hz0;generalize hy:bT (gAt x i.a)=yy at *;generalize hn:cA (gAt x i.a)=nn at *;clear hy hn;generalize hpic:aO x i.a (bk (gAt x i.a))=xx at *;clear hpic;go_enter Tryz.func90,Tryz.ntmps90;go_wp2_with (go_at_call 95;fail);refine(HT.out _ hb1).mono ?_;rintro e w2 ⟨rfl,hb2⟩;have hP2:=hP1.call hb2;have hbw:Below w.heap.size w w2:=hb1.trans (hb2.mono hb1.size);have p0:=hP2.1 0 _ rfl;clear hP1 hb2 hb1 HT;cases yy with
 |false=>
  exact pB
 |true=>
  exact sh
theorem Ad (ta:Int)(EL:List Ed)(es:oA)(ec:Nat)(sb:Nat)(i:Ins)(V F:Int)(s:oA)(c:List Ins)(cap:Nat)(at_:Int)(x:Pic)(vs:oA)(vc:Nat)(fs:oA)(fc:Nat)(wr fl:Bool)(w0 w:World)(hS:Cells w sb (aM i V F s c cap at_ x vs vc fs fc (U es EL.length ec) wr fl))(hc0:CodeAt w0 s c)(hx0:PicAt w0 x vs fs)(hz0:w0.heap.size<=sb)(hB0:Below w0.heap.size w0 w)(K:SCtx V F c x vc fc i at_)(hER:ERow sb sb w (U es EL.length ec) EL)(hL2:EL.length<=10)(hA:nA i.k=true):
  Calls pG 91 #[Pp (sO ⟨sb,0,nO⟩),I Y ta] w λe w'=>e=Rt (Tu #[])/\cn sb w' (λev'=>aM i V F s c cap at_ x vs vc fs fc ev' wr fl) EL (if cA (gAt x i.a) then [⟨ta,aO x i.a (bQ (gAt x i.a))⟩] else [])/\Below sb w w':=by
 have hsb:=hS.2.1;have hb1:Below w.heap.size w (w.alloc (Cc #[Pp (sO ⟨sb,0,nO⟩)] 150)):=by go_grown
 have hP1:Cells (w.alloc (Cc #[Pp (sO ⟨sb,0,nO⟩)] 150)) w.heap.size [Pp (sO ⟨sb,0,nO⟩)]:=Cells.new w 150 [Pp (sO ⟨sb,0,nO⟩)];have HT:Hid (∀wx,Below w.heap.size w wx->Calls pG 95 #[Pp (sO ⟨sb,0,nO⟩)] wx λe w'=>e=Rt (Tu #[Bb (bT (gAt x i.a)),Bb (cA (gAt x i.a))])/\Below wx.heap.size wx w'):=λwx hb=>lX sb i V F s c cap at_ x vs vc fs fc _ wr fl wx (hS.call hb) (hc0.below (hB0.trans (hb.mono hB0.size)) (lR _)) (hx0.below (hB0.trans (hb.mono hB0.size)) (lR _)) K hA;have HE:Hid (∀wx,Below w.heap.size w wx->Cells wx w.heap.size [Pp (sO ⟨sb,0,nO⟩)]->Calls pG 93 #[Pp (sO ⟨sb,0,nO⟩),I Y ta,.func (.func 158) #[] #[Pp (sO ⟨w.heap.size,0,nO⟩)]] wx λe w'=>e=Rt (Tu #[])/\(∃ev' q,Cells w' sb (aM i V F s c cap at_ x vs vc fs fc ev' wr fl)/\ERow sb sb w' ev' (EL++[q])/\edG q=⟨ta,aO x i.a (bQ (gAt x i.a))⟩)/\Below sb wx w'):=λwx hb hp=>
  ID sb ta _ w.heap.size EL es ec sb i V F s c cap at_ x vs vc fs fc wr fl w0 wx (hS.call hb) hc0 hx0 hz0 (hB0.trans (hb.mono hB0.size)) K rfl (hER.call hb) hL2 (KK sb sb _ i V F s c cap at_ x vs vc fs fc _ wr fl w.heap.size wx (hS.call hb) hp (K.spA hA) (K.varA hA))
 have HN:Hid (Cells w sb (aM i V F s c cap at_ x vs vc fs fc (U es EL.length ec) wr fl)/\ERow sb sb w (U es EL.length ec) EL):=⟨hS,hER⟩;clear hS hER hc0 hx0 hB0 K hz0;generalize hy:bT (gAt x i.a)=yy at *;generalize hn:cA (gAt x i.a)=nn at *;clear hy hn;generalize hpic:aO x i.a (bQ (gAt x i.a))=xx at *;clear hpic;go_enter Tryz.func91,Tryz.ntmps91;go_wp2_with (go_at_call 95;fail);refine(HT.out _ hb1).mono ?_;rintro e w2 ⟨rfl,hb2⟩;have hP2:=hP1.call hb2;have hbw:Below w.heap.size w w2:=hb1.trans (hb2.mono hb1.size);have p0:=hP2.1 0 _ rfl;clear hP1 hb2 hb1 HT;cases nn with
 |false=>
  exact pB
 |true=>
  exact sh
theorem Gl (g:Gs):cY g noneG=ag g:=by
 obtain⟨n,⟨sn,lo,hi⟩,t,f,s⟩:=g;cases s with
 |nil=>cases n<;>cases sn<;>cases t<;>cases f<;>simp[cY,noneG,ag,aG,d9,Sp.has]
 |cons a r=>cases n<;>cases sn<;>cases t<;>cases f<;>simp[cY,noneG,ag,aG,d9,Sp.has]
theorem Ir (g:Gs)(ss:oA)(gc:Nat)(EL:List Ed)(es:oA)(ec:Nat)(sb:Nat)(i:Ins)(V F:Int)(s:oA)(c:List Ins)(cap:Nat)(at_:Int)(x:Pic)(vs:oA)(vc:Nat)(fs:oA)(fc:Nat)(wr fl:Bool)(w0 w:World)(hS:Cells w sb (aM i V F s c cap at_ x vs vc fs fc (U es EL.length ec) wr fl))(hc0:CodeAt w0 s c)(hx0:PicAt w0 x vs fs)(hz0:w0.heap.size<=sb)(hB0:Below w0.heap.size w0 w)(K:SCtx V F c x vc fc i at_)(hER:ERow sb sb w (U es EL.length ec) EL)(hL2:EL.length<=10)(hI:IntsIn (λb=>sb<=b/\b≠sb/\(j3 es EL.length ec).ownBlock≠sO b) w ss g.s)(h1:g.s.length<=gc)(h2:gc<=maxLen)(hg:aq c g=0)(hT:nTo i.k=true):
  Calls pG 97 #[Pp (sO ⟨sb,0,nO⟩),Ag #[Bb g.n,Bb g.sp.n,I Y g.sp.lo,I Y g.sp.hi,Bb g.t,Bb g.f,U ss g.s.length gc]] w λe w'=>e=Rt (Tu #[])/\cn sb w' (λev'=>aM i V F s c cap at_ x vs vc fs fc ev' wr fl) EL (if ag g then [] else [⟨at_+1,aO x i.tgt g⟩])/\Below sb w w':=by
 have hsb:=hS.2.1;have ha0:=K.a0;have ha1:at_<=1000:=by have:=K.a1;have:=K.lens;omega
 have hb1:Below w.heap.size w ((w.alloc (Cc #[Pp (sO ⟨sb,0,nO⟩)] 150)).alloc (Cc #[Bb g.n,Bb g.sp.n,I Y g.sp.lo,I Y g.sp.hi,Bb g.t,Bb g.f,U ss g.s.length gc] 91)).drew:=(show Below w.heap.size w ((w.alloc (Cc #[Pp (sO ⟨sb,0,nO⟩)] 150)).alloc (Cc #[Bb g.n,Bb g.sp.n,I Y g.sp.lo,I Y g.sp.hi,Bb g.t,Bb g.f,U ss g.s.length gc] 91)) by go_grown).drew;have hP1:Cells ((w.alloc (Cc #[Pp (sO ⟨sb,0,nO⟩)] 150)).alloc (Cc #[Bb g.n,Bb g.sp.n,I Y g.sp.lo,I Y g.sp.hi,Bb g.t,Bb g.f,U ss g.s.length gc] 91)).drew w.heap.size [Pp (sO ⟨sb,0,nO⟩)]:=((Cells.new w 150 [Pp (sO ⟨sb,0,nO⟩)]).call (by go_grown)).call (bR _ _).drew;have hG1:Cells ((w.alloc (Cc #[Pp (sO ⟨sb,0,nO⟩)] 150)).alloc (Cc #[Bb g.n,Bb g.sp.n,I Y g.sp.lo,I Y g.sp.hi,Bb g.t,Bb g.f,U ss g.s.length gc] 91)).drew (w.heap.size+1) [Bb g.n,Bb g.sp.n,I Y g.sp.lo,I Y g.sp.hi,Bb g.t,Bb g.f,U ss g.s.length gc]:=by
  have h:=(Cells.new (w.alloc (Cc #[Pp (sO ⟨sb,0,nO⟩)] 150)) 91 [Bb g.n,Bb g.sp.n,I Y g.sp.lo,I Y g.sp.hi,Bb g.t,Bb g.f,U ss g.s.length gc]).call (bR _ _).drew;rw[zA] at h;exact h
 have HWI:Hid (∀wx,Below w.heap.size w wx->Calls pG 161 #[pv V F s c cap,gv g ss gc,gv noneG nO 0] wx λe w'=>e=Rt (Tu #[Bb (ag g),I Y 0])/\Below wx.heap.size wx w'):=λwx hb=>by
  rw[<-Gl];exact p7 V F s c cap g ss gc noneG nO 0 wx (hc0.below (hB0.trans (hb.mono hB0.size)) (lR _)) (hI.at.call hb) h1 h2 (.inl rfl) (lR _) (j4 _) (K.duo hg rfl)
 have HE:Hid (∀wx,Below w.heap.size w wx->Cells wx w.heap.size [Pp (sO ⟨sb,0,nO⟩)]->Cells wx (w.heap.size+1) [Bb g.n,Bb g.sp.n,I Y g.sp.lo,I Y g.sp.hi,Bb g.t,Bb g.f,U ss g.s.length gc]->Calls pG 93 #[Pp (sO ⟨sb,0,nO⟩),I Y (at_+1),.func (.func 162) #[] #[Pp (sO ⟨w.heap.size+1,0,nO⟩),Pp (sO ⟨w.heap.size,0,nO⟩)]] wx λe w'=>e=Rt (Tu #[])/\(∃ev' q,Cells w' sb (aM i V F s c cap at_ x vs vc fs fc ev' wr fl)/\ERow sb sb w' ev' (EL++[q])/\edG q=⟨at_+1,aO x i.tgt g⟩)/\Below sb wx w'):=λwx hb hp hq=>
  Fu sb (at_+1) _ (w.heap.size+1) w.heap.size EL es ec sb i V F s c cap at_ x vs vc fs fc wr fl w0 wx (hS.call hb) hc0 hx0 hz0 (hB0.trans (hb.mono hB0.size)) K rfl (hER.call hb) hL2 (Kx sb sb _ i V F s c cap at_ x vs vc fs fc _ wr fl (w.heap.size+1) w.heap.size g ss gc wx (hS.call hb) hp hq ((hI.call hb)) h1 h2 (K.varTo hT))
 have HN:Hid (∀wx,Below w.heap.size w wx->Cells wx sb (aM i V F s c cap at_ x vs vc fs fc (U es EL.length ec) wr fl)/\ERow sb sb wx (U es EL.length ec) EL):=λwx hb=>⟨hS.call hb,hER.call hb⟩;clear hER hc0 hx0 hB0 K hz0 hI hg hT;generalize ePB:w.heap.size=pb at hP1 hG1 HE hb1 |-;generalize eGB:pb+1=gb at hG1 HE |-;have HKZ:Hid (∀wx,Below pb w wx->Cells wx pb [Pp (sO ⟨sb,0,nO⟩)]->Cells wx gb [Bb g.n,Bb g.sp.n,I Y g.sp.lo,I Y g.sp.hi,Bb g.t,Bb g.f,U ss g.s.length gc]->wx.cell? ⟨pb,0,nO⟩=sO (Pp (sO ⟨sb,0,nO⟩))/\(wx.cell? ⟨sb,6,nO⟩=sO (I Y V)/\wx.cell? ⟨sb,7,nO⟩=sO (I Y F)/\wx.cell? ⟨sb,8,nO⟩=sO (U s c.length cap))/\(wx.cell? ⟨gb,0,nO⟩=sO (Bb g.n)/\wx.cell? ⟨gb,1,nO⟩=sO (Bb g.sp.n)/\wx.cell? ⟨gb,2,nO⟩=sO (I Y g.sp.lo)/\wx.cell? ⟨gb,3,nO⟩=sO (I Y g.sp.hi)/\wx.cell? ⟨gb,4,nO⟩=sO (Bb g.t)/\wx.cell? ⟨gb,5,nO⟩=sO (Bb g.f)/\wx.cell? ⟨gb,6,nO⟩=sO (U ss g.s.length gc))):=λwx hb hp hq=>by
  rw[<-ePB] at hb;have h:=hS.call hb;exact⟨hp.1 0 _ rfl,⟨h.1 6 _ rfl,h.1 7 _ rfl,h.1 8 _ rfl⟩,⟨hq.1 0 _ rfl,hq.1 1 _ rfl,hq.1 2 _ rfl,hq.1 3 _ rfl,hq.1 4 _ rfl,hq.1 5 _ rfl,hq.1 6 _ rfl⟩⟩
 clear hS;subst eGB;subst ePB;generalize ex:aO x i.tgt g=xx at *;generalize ey:ag g=yy at *;clear ex ey;go_enter Tryz.func97,Tryz.ntmps97
 go_upto_region 1 with fail
 refine aw (S:=(λwx=>wx.cell? ⟨w.heap.size,0,nO⟩=sO (Pp (sO ⟨sb,0,nO⟩))/\(wx.cell? ⟨sb,6,nO⟩=sO (I Y V)/\wx.cell? ⟨sb,7,nO⟩=sO (I Y F)/\wx.cell? ⟨sb,8,nO⟩=sO (U s c.length cap))/\(wx.cell? ⟨w.heap.size+1,0,nO⟩=sO (Bb g.n)/\wx.cell? ⟨w.heap.size+1,1,nO⟩=sO (Bb g.sp.n)/\wx.cell? ⟨w.heap.size+1,2,nO⟩=sO (I Y g.sp.lo)/\wx.cell? ⟨w.heap.size+1,3,nO⟩=sO (I Y g.sp.hi)/\wx.cell? ⟨w.heap.size+1,4,nO⟩=sO (Bb g.t)/\wx.cell? ⟨w.heap.size+1,5,nO⟩=sO (Bb g.f)/\wx.cell? ⟨w.heap.size+1,6,nO⟩=sO (U ss g.s.length gc)))) [] (by kernel_rfl) (HKZ.out _ hb1 hP1 hG1) (λhHeld=> ?_);generalize ((w.alloc (Cc #[Pp (sO ⟨sb,0,nO⟩)] 150)).alloc (Cc #[Bb g.n,Bb g.sp.n,I Y g.sp.lo,I Y g.sp.hi,Bb g.t,Bb g.f,U ss g.s.length gc] 91)).drew=w1 at *;refine vZ 0 ?_ ?_;refine vZ 1 ?_ ?_;refine vZ 2 ?_ ?_;refine vZ 3 ?_ ?_;refine vZ 4 ?_ ?_;refine vZ 5 ?_ ?_;refine vZ 6 ?_ ?_;refine am (i:=7) rfl (by kernel_rfl) (λK hK=> ?_);go_simp;refine(HWI.out w1 hb1).mono ?_;rintro e w2 ⟨rfl,hb2⟩;have hbw:Below w.heap.size w w2:=hb1.trans (hb2.mono hb1.size);have hP2:=hP1.call hb2;have hG2:=hG1.call hb2;refine hK.out _ _ (HKZ.out w2 hbw hP2 hG2) (λhHeld=> ?_);clear hK K hb1 hb2 hP1 hG1;refine sm ?_;refine vZ 8 ?_ ?_;refine vZ 9 ?_ ?_;refine vZ 10 ?_ ?_;refine vZ 11 ?_ ?_;refine vZ 12 ?_ ?_;refine ap (by kernel_rfl) ?_ _;cases yy with
 |true=>
  have HF:Hid (cn sb w2 (λev'=>aM i V F s c cap at_ x vs vc fs fc ev' wr fl) EL []):=⟨_,[],(HN.out w2 hbw).1,by rw[x0];exact(HN.out w2 hbw).2,rfl⟩;clear HE HKZ HWI;go_wp2
  first|go_end0|refine bodyPost_ret (results_none rfl _ _ _) rfl ?_
  exact⟨rfl,HF.out,hbw.mono (j8 hsb)⟩
 |false=>
  have hbq:=hbw.drew;have hPq:=hP2.call (bR _ _).drew;have hGq:=hG2.call (bR _ _).drew;have PQ:=hPq.1 0 _ rfl;have CQ:=(HN.out _ hbq).1;clear HN HKZ HWI hP2 hG2 hbw
  go_upto_region 3 with fail
  refine aw (S:=(λwx=>wx.cell? ⟨w.heap.size,0,nO⟩=sO (Pp (sO ⟨sb,0,nO⟩)))) [4] (by kernel_rfl) PQ (λhHeld=> ?_);generalize w2.drew=wq at *;refine vZ 0 ?_ ?_;refine vZ 1 ?_ ?_;refine vZ 3 ?_ ?_;refine am (i:=2) rfl (by kernel_rfl) (λK hK=> ?_);go_simp;refine(il sb at_ _ wq CQ rfl ha0 ha1).mono ?_;rintro e w' ⟨rfl,ew⟩;rw[ew];clear ew w';refine hK.out _ _ PQ (λhHeld=> ?_);clear hK K;refine sm ?_;refine bo (i:=4) rfl (by kernel_rfl) (by kernel_rfl) (λK hK=> ?_);go_simp;refine(HE.out wq hbq hPq hGq).mono ?_;rintro e w3 ⟨rfl,⟨ev',q,C3,E3,eq3⟩,hb3⟩;have HF:Hid (cn sb w3 (λev'=>aM i V F s c cap at_ x vs vc fs fc ev' wr fl) EL [⟨at_+1,xx⟩]):=⟨ev',[q],C3,E3,by simp[eq3]⟩;have hbz:Below sb w w3:=(hbq.mono (j8 hsb)).trans hb3;clear C3 E3 eq3 hb3 hPq hGq HE PQ CQ hbq;refine hK.out _ _ ?_;clear hK K;refine sm ?_;refine ap (by kernel_rfl) ?_ _
  first|go_end0|refine bodyPost_ret (results_none rfl _ _ _) rfl ?_
  exact⟨rfl,HF.out,hbz⟩
theorem vA (x':Pic)(EL:List Ed)(es:oA)(ec:Nat)(sb:Nat)(i:Ins)(V F:Int)(s:oA)(c:List Ins)(cap:Nat)(at_:Int)(x:Pic)(vs:oA)(vc:Nat)(fs:oA)(fc:Nat)(wr fl:Bool)(w0 w:World)(hS:Cells w sb (aM i V F s c cap at_ x vs vc fs fc (U es EL.length ec) wr fl))(hc0:CodeAt w0 s c)(hx0:PicAt w0 x vs fs)(hz0:w0.heap.size<=sb)(hB0:Below w0.heap.size w0 w)(K:SCtx V F c x vc fc i at_)(hER:ERow sb sb w (U es EL.length ec) EL)(hL2:EL.length<=10)(HC:∀wx,Below w.heap.size w wx->Cells wx sb (aM i V F s c cap at_ x vs vc fs fc (U es EL.length ec) wr fl)->Cells wx w.heap.size [Pp (sO ⟨sb,0,nO⟩)]->fD 153 (λp=>#[p,Pp (sO ⟨w.heap.size,0,nO⟩)]) sb sb (j3 es EL.length ec).ownBlock wx x x'):
  Calls pG 88 #[Pp (sO ⟨sb,0,nO⟩)] w λe w'=>e=Rt (Tu #[])/\cn sb w' (λev'=>aM i V F s c cap at_ x vs vc fs fc ev' wr fl) EL ([⟨at_+1,x'⟩])/\Below sb w w':=by
 have hsb:=hS.2.1;have ha0:=K.a0;have ha1:at_<=1000:=by have:=K.a1;have:=K.lens;omega
 have hb1:Below w.heap.size w (w.alloc (Cc #[Pp (sO ⟨sb,0,nO⟩)] 150)):=by go_grown
 have hP1:Cells (w.alloc (Cc #[Pp (sO ⟨sb,0,nO⟩)] 150)) w.heap.size [Pp (sO ⟨sb,0,nO⟩)]:=Cells.new w 150 [Pp (sO ⟨sb,0,nO⟩)];have hbw:=hb1.drew;have hP2:=hP1.call (bR _ _).drew;have PQ:=hP2.1 0 _ rfl;have PQ0:=PQ;have HE:Hid (∀wx,Below w.heap.size w wx->Cells wx w.heap.size [Pp (sO ⟨sb,0,nO⟩)]->Calls pG 93 #[Pp (sO ⟨sb,0,nO⟩),I Y (at_+1),.func (.func 153) #[] #[Pp (sO ⟨w.heap.size,0,nO⟩)]] wx λe w'=>e=Rt (Tu #[])/\(∃ev' q,Cells w' sb (aM i V F s c cap at_ x vs vc fs fc ev' wr fl)/\ERow sb sb w' ev' (EL++[q])/\edG q=⟨at_+1,x'⟩)/\Below sb wx w'):=λwx hb hp=>
  Fc sb (at_+1) _ w.heap.size EL es ec sb i V F s c cap at_ x vs vc fs fc wr fl w0 wx (hS.call hb) hc0 hx0 hz0 (hB0.trans (hb.mono hB0.size)) K rfl (hER.call hb) hL2 (HC wx hb (hS.call hb) hp)
 have CQ:=hS.call hbw;clear hS hER hc0 hx0 hB0 K hz0 hP1 hb1 HC;generalize x'=xx at *;go_enter Tryz.func88,Tryz.ntmps88
 go_upto_region 1 with fail
 refine aw (S:=(λwx=>wx.cell? ⟨w.heap.size,0,nO⟩=sO (Pp (sO ⟨sb,0,nO⟩)))) [4] (by kernel_rfl) PQ0 (λhHeld=> ?_);generalize (w.alloc (Cc #[Pp (sO ⟨sb,0,nO⟩)] 150)).drew=wq at *;refine vZ 0 ?_ ?_;refine vZ 1 ?_ ?_;refine vZ 3 ?_ ?_;refine am (i:=2) rfl (by kernel_rfl) (λK hK=> ?_);go_simp;refine(il sb at_ _ wq CQ rfl ha0 ha1).mono ?_;rintro e w' ⟨rfl,ew⟩;rw[ew];clear ew w';refine hK.out _ _ PQ (λhHeld=> ?_);clear hK K;refine sm ?_;refine bo (i:=4) rfl (by kernel_rfl) (by kernel_rfl) (λK hK=> ?_);go_simp;refine(HE.out wq hbw hP2).mono ?_;rintro e w3 ⟨rfl,⟨ev',q,C3,E3,eq3⟩,hb3⟩;have HF:Hid (cn sb w3 (λev'=>aM i V F s c cap at_ x vs vc fs fc ev' wr fl) EL [⟨at_+1,xx⟩]):=⟨ev',[q],C3,E3,by simp[eq3]⟩;have hbz:Below sb w w3:=(hbw.mono (j8 hsb)).trans hb3;clear C3 E3 eq3 hb3 hP2 HE PQ CQ hbw;refine hK.out _ _ ?_;clear hK K;refine sm ?_;refine ap (by kernel_rfl) ?_ _
 first|go_end0|refine bodyPost_ret (results_none rfl _ _ _) rfl ?_
 exact⟨rfl,HF.out,hbz⟩
theorem Kr (x':Pic)(EL:List Ed)(es:oA)(ec:Nat)(sb:Nat)(i:Ins)(V F:Int)(s:oA)(c:List Ins)(cap:Nat)(at_:Int)(x:Pic)(vs:oA)(vc:Nat)(fs:oA)(fc:Nat)(wr fl:Bool)(w0 w:World)(hS:Cells w sb (aM i V F s c cap at_ x vs vc fs fc (U es EL.length ec) wr fl))(hc0:CodeAt w0 s c)(hx0:PicAt w0 x vs fs)(hz0:w0.heap.size<=sb)(hB0:Below w0.heap.size w0 w)(K:SCtx V F c x vc fc i at_)(hER:ERow sb sb w (U es EL.length ec) EL)(hL2:EL.length<=10)(hA:nA i.k=true)(HC:∀wx ss gc tb,Below w0.heap.size w0 wx->Cells wx sb (aM i V F s c cap at_ x vs vc fs fc (U es EL.length ec) (bB (gAt x i.a)) fl)->Cells wx w.heap.size [Pp (sO ⟨sb,0,nO⟩)]->Cells wx tb [U ss (gAt x i.a).s.length gc]->IntsAt w0 ss (gAt x i.a).s->fD 155 (λp=>#[p,Pp (sO ⟨tb,0,nO⟩),Pp (sO ⟨w.heap.size,0,nO⟩)]) sb sb (j3 es EL.length ec).ownBlock wx x x'):
  Calls pG 89 #[Pp (sO ⟨sb,0,nO⟩)] w λe w'=>e=Rt (Tu #[])/\cn sb w' (λev'=>aM i V F s c cap at_ x vs vc fs fc ev' (bB (gAt x i.a)) fl) EL (if (gAt x i.a).s.length=0 then [] else [⟨at_+1,x'⟩])/\Below sb w w':=by
 have hsb:=hS.2.1;have ha0:=K.a0;have ha1:at_<=1000:=by have:=K.a1;have:=K.lens;omega
 have hb1:Below w.heap.size w (w.alloc (Cc #[Pp (sO ⟨sb,0,nO⟩)] 150)):=by go_grown
 have hP1:Cells (w.alloc (Cc #[Pp (sO ⟨sb,0,nO⟩)] 150)) w.heap.size [Pp (sO ⟨sb,0,nO⟩)]:=Cells.new w 150 [Pp (sO ⟨sb,0,nO⟩)];have HT:=aa (sR sb i V F s c cap at_ x vs vc fs fc _ wr fl w0 (w.alloc (Cc #[Pp (sO ⟨sb,0,nO⟩)] 150)) (hS.call hb1) hc0 hx0 hz0 (hB0.trans (hb1.mono hB0.size)) K hA);have HE:Hid (∀wx,Below w0.heap.size w0 wx->Cells wx sb (aM i V F s c cap at_ x vs vc fs fc (U es EL.length ec) (bB (gAt x i.a)) fl)->ERow sb sb wx (U es EL.length ec) EL->∀tb ss gc,IntsAt w0 ss (gAt x i.a).s->Cells wx w.heap.size [Pp (sO ⟨sb,0,nO⟩)]->Cells wx tb [U ss (gAt x i.a).s.length gc]->Calls pG 93 #[Pp (sO ⟨sb,0,nO⟩),I Y (at_+1),.func (.func 155) #[] #[Pp (sO ⟨tb,0,nO⟩),Pp (sO ⟨w.heap.size,0,nO⟩)]] wx λe w'=>e=Rt (Tu #[])/\(∃ev' q,Cells w' sb (aM i V F s c cap at_ x vs vc fs fc ev' (bB (gAt x i.a)) fl)/\ERow sb sb w' ev' (EL++[q])/\edG q=⟨at_+1,x'⟩)/\Below sb wx w'):=λwx hb hs hr tb ss gc hi hp hq=>
  FV sb (at_+1) _ tb w.heap.size EL es ec sb i V F s c cap at_ x vs vc fs fc _ fl w0 wx hs hc0 hx0 hz0 hb K rfl hr hL2 (HC wx ss gc tb hb hs hp hq hi)
 have hER1:=hER.call hb1;have hB1:=hB0.trans (hb1.mono hB0.size);have hzz:=aa hz0;clear hS hER hc0 hx0 hB0 K hz0 HC hA;generalize x'=xx at *;generalize eN:bB (gAt x i.a)=nt at *;clear eN;generalize eL:(gAt x i.a).s=l at *;clear eL;generalize eM:l.length=ln at *;go_enter Tryz.func89,Tryz.ntmps89;go_wp2_with (go_at_call 154;fail);generalize eW:w.alloc (Cc #[Pp (sO ⟨sb,0,nO⟩)] 150)=w1 at *;refine HT.out.mono ?_;rintro e w2 ⟨⟨ss,gc,rfl,hi,hl1,hl2⟩,C2,M2⟩;have hP2:Cells w2 w.heap.size [Pp (sO ⟨sb,0,nO⟩)]:=hP1.same (M2.2 _ hP1.2.1 (Nat.ne_of_gt hsb)) M2.1.size;have hE2:=hER1.same (λb _ hne hlt=>M2.2 b hlt hne) M2.1.size;have hB2:Below w0.heap.size w0 w2:=hB1.trans (M2.1.mono hzz.out);have hM2:Below sb w w2:=(hb1.mono (j8 hsb)).trans M2.1;clear hP1 hER1 hB1 hb1 M2 HT eW;have hb3:Below w2.heap.size w2 (w2.alloc (Cc #[U ss ln gc] 34)):=by go_grown
 have T3:Cells (w2.alloc (Cc #[U ss ln gc] 34)) w2.heap.size [U ss ln gc]:=Cells.new w2 34 [U ss ln gc];have hzb:sb<=w2.heap.size:=j8 C2.2.1;have C3:=C2.call hb3;have P3:=hP2.call hb3;have R3:=hE2.call hb3;have B3:=hB2.trans (hb3.mono hB2.size);have M3:=hM2.trans (hb3.mono hzb);have HE3:=aa (λwx h1 h2 h3=>HE.out wx h1 h2 h3 w2.heap.size ss gc hi);clear HE C2 hP2 hE2 hB2 hM2 hzb hi hb3;have t0:=T3.1 0 _ rfl;have p0:=P3.1 0 _ rfl;have HH:=aa (And.intro C3 (And.intro P3 (And.intro R3 (And.intro B3 (And.intro M3 T3)))));clear C3 P3 R3 B3 M3 T3;have HQ:Hid (l.length=ln):=eM;clear eM;rcases Nat.eq_zero_or_pos ln with hz|hz
 ·subst hz
  obtain⟨C3,P3,R3,B3,M3,T3⟩:=HH.out;have HF:Hid (cn sb (w2.alloc (Cc #[U ss 0 gc] 34)) (λev'=>aM i V F s c cap at_ x vs vc fs fc ev' nt fl) EL []):=⟨_,[],C3,by rw[x0];exact R3,rfl⟩;have hbz:Below sb w (w2.alloc (Cc #[U ss 0 gc] 34)):=M3;clear C3 P3 R3 B3 M3 T3 HE3 HH;go_wp2
  first|go_end0|refine bodyPost_ret (results_none rfl _ _ _) rfl ?_
  exact⟨rfl,HF.out,hbz⟩
 ·have hc:((ln:Int)==0)=false:=by simp;omega
  have hn:¬ln=0:=by omega
  have HNZ:=aa hn;clear hn hz
  go_upto_region 3 with fail
  generalize eW:w2.alloc (Cc #[U ss ln gc] 34)=w3 at *;clear eW;obtain⟨C3,P3,R3,B3,M3,T3⟩:=HH.out;have hdr:Below w3.heap.size w3 w3.drew:=(bR _ _).drew;have CQ:=C3.call hdr;have hPq:=P3.call hdr;have hRq:=R3.call hdr;have hBq:=B3.drew;have hMq:=M3.drew;have hTq:=T3.call hdr;have PQ:=hPq.1 0 _ rfl;clear C3 P3 R3 B3 M3 T3 HH hdr t0 p0;refine aw (S:=(λwx=>wx.cell? ⟨w.heap.size,0,nO⟩=sO (Pp (sO ⟨sb,0,nO⟩)))) [4] (by kernel_rfl) PQ (λhHeld=> ?_);generalize w3.drew=wq at *;refine vZ 0 ?_ ?_;refine vZ 1 ?_ ?_;refine vZ 3 ?_ ?_;refine am (i:=2) rfl (by kernel_rfl) (λK hK=> ?_);go_simp;refine(il sb at_ _ wq CQ rfl ha0 ha1).mono ?_;rintro e w' ⟨rfl,ew⟩;rw[ew];clear ew w';refine hK.out _ _ PQ (λhHeld=> ?_);clear hK K;refine sm ?_;refine bo (i:=4) rfl (by kernel_rfl) (by kernel_rfl) (λK hK=> ?_);go_simp;refine(HE3.out wq hBq CQ hRq hPq hTq).mono ?_;rintro e w4 ⟨rfl,⟨ev',q,C3,E3,eq3⟩,hb3⟩;have HF:Hid (cn sb w4 (λev'=>aM i V F s c cap at_ x vs vc fs fc ev' nt fl) EL [⟨at_+1,xx⟩]):=⟨ev',[q],C3,E3,by simp[eq3]⟩;have hbz:Below sb w w4:=hMq.trans hb3;clear C3 E3 eq3 hb3 hPq hTq HE3 PQ CQ hMq hBq hRq;refine hK.out _ _ ?_;clear hK K;refine sm ?_;refine ap (by kernel_rfl) ?_ _
  first|go_end0|refine bodyPost_ret (results_none rfl _ _ _) rfl ?_
  exact⟨rfl,by rw[if_neg HNZ.out];exact HF.out,hbz⟩
end
section
open Go.RowKit
def po (y:Gc):Gc:=⟨{y.g with n:=true},y.ss,y.cap⟩
def go (j:Nat)(l:List Gc):List Gc:=(l.take j).map po++l.drop j
theorem fI (j:Nat)(l:List Gc):(go j l).length=l.length:=by simp[go];omega
theorem Gm {j:Nat}{l:List Gc}(h:j < l.length):(go j l)[j]'(by rw[fI];exact h)=l[j]:=by
 simp only[go];rw[List.getElem_append_right (by simp;omega)];simp only[List.length_map,List.length_take,List.getElem_drop];congr 1;omega
theorem Du {j:Nat}{l:List Gc}(h:j < l.length):(go j l).set j (po l[j])=go (j+1) l:=by
 unfold go;rw[List.set_append_right _ _ (by simp;omega),x3 h,x1,List.append_assoc,List.drop_eq_getElem_cons h];have e:j - (j6 po (l.take j)).length=0:=by simp;omega
 rw[e];rfl
theorem Gd {j:Nat}{l:List Gc}(h:l.length<=j):go j l=l.map po:=by simp[go,List.take_of_length_le h,List.drop_of_length_le h]
theorem CT (l:List Gc):go 0 l=l:=by simp[go]
def cD (L:List Ro)(m j:Nat)(hm:m < L.length):List Ro:=L.set m ⟨L[m].rs,L[m].rc,go j L[m].l⟩
theorem fj (L:List Ro)(m j:Nat)(hm:m < L.length):(cD L m j hm).length=L.length:=by simp[cD]
theorem kg (L:List Ro)(m j:Nat)(hm:m < L.length):(cD L m j hm)[m]'(by rw[fj];exact hm)=⟨L[m].rs,L[m].rc,go j L[m].l⟩:=by simp[cD]
theorem ur (L:List Ro)(m:Nat)(hm:m < L.length):cD L m 0 hm=L:=by
 unfold cD;rw[CT];exact q9 hm
theorem wE (L:List Ro)(m j:Nat)(hm:m < L.length):roV ((cD L m j hm)[m]'(by rw[fj];exact hm))=U L[m].rs L[m].l.length L[m].rc:=by rw[kg];unfold roV;rw[fI]
theorem Gf (L:List Ro)(m j:Nat)(hm:m < L.length):(cD L m j hm).map roB=L.map roB:=by
 unfold cD;rw[j9,ge (v:=L[m]) (fI _ _),<-x7 (f:=roB) (h:=by simpa using hm),q9]
section
variable {T:Nat->Prop} {B:Nat} {w:World} {v:Ro} {fs:oA} {fc:Nat} {L:List Ro} {m j b:Nat}
theorem PicG.nul {hm:m < L.length}(h:PicG T B w v fs fc (cD L m j hm))(hb:L[m].rs=sO ⟨b,0,nO⟩)(hj:j < L[m].l.length):PicG T B (w.setCell ⟨b,j * 7,nO⟩ (Bb true)) v fs fc (cD L m (j+1) hm):=by
 have hm':m < (cD L m j hm).length:=by rw[fj];exact hm
 have e0:=kg L m j hm;have hk:j < (cD L m j hm)[m].l.length:=by rw[e0];simpa[fI] using hj
 have e1:(cD L m j hm)[m].l[j]=L[m].l[j]:=by
  have:∀(r:Ro) (hr:(cD L m j hm)[m]=r) (h':j < r.l.length),(cD L m j hm)[m].l[j]=r.l[j]:=by intro r hr h';subst hr;rfl
  rw[this _ e0 (by simpa[fI] using hj)];exact Gm hj
 have g1:=h.sf _ (gM hm') _ (gM hk);rw[e1] at g1;have h1:=h.putF hm' (b:=b) (by rw[e0];exact hb) (k:=j) (j:=0) (u:=Bb true) (x':=po L[m].l[j]) hk (by omega) (by rw[e1];rfl) ⟨g1.1,g1.2⟩;rw[e0] at h1;have e2:(cD L m j hm).set m ⟨L[m].rs,L[m].rc,(go j L[m].l).set j (po L[m].l[j])⟩=cD L m (j+1) hm:=by
  rw[Du hj];unfold cD;rw[List.set_set]
 rw[e2] at h1;exact h1
theorem nulR_off {hm:m < L.length}{fb:Option Nat}{q:Nat}:Off v fb (cD L m j hm) q↔Off v fb L q:=by
 have:(∀r∈cD L m j hm,roB r≠sO q)↔∀r∈L,roB r≠sO q:=by
  have h1:∀l:List Ro,(∀r∈l,roB r≠sO q)↔∀o∈l.map roB,o≠sO q:=λl=>by simp
  rw[h1,h1,Gf]
 unfold Off;rw[this]
theorem vr {hm:m < L.length}{n:Bool}(hj:L[m].l.length<=j):aL n v (cD L m j hm)=fA (m:Int) (aL n v L):=by
 unfold cD aL fA;rw[Gd hj];simp only[j9,roG,Int.toNat_natCast,List.map_map];congr 1;refine x4 λq=> ?_;rw[x5,x6];by_cases e:m=q
 ·subst e
  simp[hm,roG,po,Function.comp_def]
 ·simp[e]
end
end
section
open Go.RowKit
attribute [local go_sem ↓] Go.wp_at_zero Go.wp_at_succ
theorem Kl (n sb:Nat)(eb:Option Nat)(i:Ins)(V F:Int)(s:oA)(c:List Ins)(cap:Nat)(at_:Int)(x:Pic)(vs:oA)(vc:Nat)(fs:oA)(fc:Nat)(ev:Value)(wr fl:Bool)(pb:Nat)(w:World)(hS:Cells w sb (aM i V F s c cap at_ x vs vc fs fc ev wr fl))(hP:Cells w pb [Pp (sO ⟨sb,0,nO⟩)])(hk:∃k:Nat,i.tgt=k/\k < x.vars.length)(hm:∃m:Nat,at_=m/\m < x.flds.length)(hn:n<=w.heap.size)(he:∀b,eb=sO b->b < w.heap.size):
  fD 153 (λp=>#[p,Pp (sO ⟨pb,0,nO⟩)]) n sb eb w x (aO (fA at_ x) i.tgt ⟨false,⟨true,0,0⟩,false,false,[at_]⟩):=by
 intro wx xb v gs gcc L hb0 hp;obtain⟨zxb,A0,G0,OF,EX⟩:=hp;have hdr:Below wx.heap.size wx wx.drew:=(bR _ _).drew;have hb:=hb0.drew;have A:=A0.call hdr;have G:=G0.call hdr;have hsz:w.heap.size<=wx.heap.size:=hb0.size;have hzd:wx.heap.size<=wx.drew.heap.size:=hdr.size;have hbd:Below w.heap.size wx wx.drew:=hdr.mono hsz;clear hb0 A0 G0 hdr;obtain⟨k,ek,hkx⟩:=hk;obtain⟨m,em,hmx⟩:=hm;have hkv:k < v.l.length:=by rw[<-EX] at hkx;simpa[aL,roG] using hkx
 have hmL:m < L.length:=by rw[<-EX] at hmx;simpa[aL] using hmx
 obtain⟨vb,evb,eb1,hvb,zvb⟩:=G.vars.form (by omega);have nxv:xb≠vb:=λe=>OF.1 (by rw[eb1,e]);obtain⟨fb,efb,hfb,zfb,-⟩:=G.fform (by omega);subst efb;have hLM:L[m].l.length<=9223372036854775807:=by
  have h:=(G.rows _ (gM hmL)).caps;unfold maxLen at h;omega
 have n0:(0:Int)<=(k:Int):=by omega
 have n1:(k:Int) < (v.l.length:Int):=by omega
 have m0:(0:Int)<=(m:Int):=by omega
 have m1:(m:Int) < (L.length:Int):=by omega
 have hsb:=hS.2.1;have hxb:=A.2.1;have HSP:Hid (∀wz,Below w.heap.size w wz->wz.cell? ⟨pb,0,nO⟩=sO (Pp (sO ⟨sb,0,nO⟩))/\wz.cell? ⟨sb,1,nO⟩=sO (I Y (k:Int))/\wz.cell? ⟨sb,9,nO⟩=sO (I Y (m:Int))):=λwz hz=>⟨(hP.call hz).1 0 _ rfl,by rw[<-ek];exact(hS.call hz).1 1 _ rfl,by rw[<-em];exact(hS.call hz).1 9 _ rfl⟩;have HKZ:Hid (∀wz,Below wx.drew.heap.size wx.drew wz->wz.cell? ⟨xb,1,nO⟩=sO (U (sO ⟨vb,0,nO⟩) v.l.length v.rc)/\wz.cell? ⟨pb,0,nO⟩=sO (Pp (sO ⟨sb,0,nO⟩))/\wz.cell? ⟨sb,1,nO⟩=sO (I Y (k:Int))/\wz.cell? ⟨sb,9,nO⟩=sO (I Y (m:Int))):=λwz hz=>by
  have h1:=(A.call hz).1 1 _ rfl;rw[evb] at h1;have h2:=HSP.out wz (hb.trans (hz.mono (lT hsz hzd)));exact⟨h1,h2.1,h2.2.1,h2.2.2⟩
 have hba:Below wx.drew.heap.size wx.drew (wx.drew.alloc (Cc #[I Y (m:Int)] 3)):=by go_grown
 have GN:=G.call hba;have GI:bH (λb=>ClT n sb eb xb b/\Off v (j3 (sO ⟨fb,0,nO⟩) L.length gcc).ownBlock L b) (wx.drew.alloc (Cc #[I Y (m:Int)] 3)) (⟨⟨false,⟨true,0,0⟩,false,false,[(m:Int)]⟩,sO ⟨wx.drew.heap.size,0,nO⟩,1⟩:Gc):=by
  refine⟨.inr ⟨_,0,rfl,⟨⟨by omega,by omega,by omega,λe=>by have:=he _ e;omega⟩,λe=> ?_,λe=> ?_,λr hr e=> ?_⟩,by simp,λq hq=> ?_⟩,lR _,by show 1<=maxLen;unfold maxLen;omega⟩
  ·have:=(G.vars.lt e).1;omega
  ·have:=(aH G.flds e).1;omega
  ·have:=((G.rows r hr).lt e).1;omega
  ·have eq0:q=0:=by simpa using hq
   subst eq0;simp[go_sem]
 have GZ:=GN.setV evb hkv GI;have GU:=GN.vars.gu evb hkv;have TH:=aa (GN.vars.thaw evb);have hbx:Below w.heap.size wx (bP (wx.drew.alloc (Cc #[I Y (m:Int)] 3)) vb k (⟨⟨false,⟨true,0,0⟩,false,false,[(m:Int)]⟩,sO ⟨wx.drew.heap.size,0,nO⟩,1⟩:Gc)):=dd (hbd.trans (hba.mono (lT hsz hzd))) hvb;have hbw:Below w.heap.size w (bP (wx.drew.alloc (Cc #[I Y (m:Int)] 3)) vb k (⟨⟨false,⟨true,0,0⟩,false,false,[(m:Int)]⟩,sO ⟨wx.drew.heap.size,0,nO⟩,1⟩:Gc)):=dd (hb.trans (hba.mono (lT hsz hzd))) hvb;have AZ:Cells (bP (wx.drew.alloc (Cc #[I Y (m:Int)] 3)) vb k (⟨⟨false,⟨true,0,0⟩,false,false,[(m:Int)]⟩,sO ⟨wx.drew.heap.size,0,nO⟩,1⟩:Gc)) xb [Bb false,U v.rs v.l.length v.rc,U (sO ⟨fb,0,nO⟩) L.length gcc]:=(A.call hba).same (cU nxv) (by rw[cN];exact lR _);have HH:Hid (∃y:Gc,y.g=⟨false,⟨true,0,0⟩,false,false,[(m:Int)]⟩/\PicG (ClT n sb eb xb) w.heap.size ((((((((wx.drew.alloc (Cc #[I Y (m:Int)] 3)).setCell ⟨vb,k * 7,nO⟩ (Bb false)).setCell ⟨vb,k * 7+1,nO⟩ (Bb true)).setCell ⟨vb,k * 7+2,nO⟩ (I Y 0)).setCell ⟨vb,k * 7+3,nO⟩ (I Y 0)).setCell ⟨vb,k * 7+4,nO⟩ (Bb false)).setCell ⟨vb,k * 7+5,nO⟩ (Bb false)).setCell ⟨vb,k * 7+6,nO⟩ (U (sO ⟨wx.drew.heap.size,0,nO⟩) 1 1)) ⟨v.rs,v.rc,v.l.set k y⟩ (sO ⟨fb,0,nO⟩) gcc L/\Below w.heap.size wx ((((((((wx.drew.alloc (Cc #[I Y (m:Int)] 3)).setCell ⟨vb,k * 7,nO⟩ (Bb false)).setCell ⟨vb,k * 7+1,nO⟩ (Bb true)).setCell ⟨vb,k * 7+2,nO⟩ (I Y 0)).setCell ⟨vb,k * 7+3,nO⟩ (I Y 0)).setCell ⟨vb,k * 7+4,nO⟩ (Bb false)).setCell ⟨vb,k * 7+5,nO⟩ (Bb false)).setCell ⟨vb,k * 7+6,nO⟩ (U (sO ⟨wx.drew.heap.size,0,nO⟩) 1 1))/\Below w.heap.size w ((((((((wx.drew.alloc (Cc #[I Y (m:Int)] 3)).setCell ⟨vb,k * 7,nO⟩ (Bb false)).setCell ⟨vb,k * 7+1,nO⟩ (Bb true)).setCell ⟨vb,k * 7+2,nO⟩ (I Y 0)).setCell ⟨vb,k * 7+3,nO⟩ (I Y 0)).setCell ⟨vb,k * 7+4,nO⟩ (Bb false)).setCell ⟨vb,k * 7+5,nO⟩ (Bb false)).setCell ⟨vb,k * 7+6,nO⟩ (U (sO ⟨wx.drew.heap.size,0,nO⟩) 1 1))/\Cells ((((((((wx.drew.alloc (Cc #[I Y (m:Int)] 3)).setCell ⟨vb,k * 7,nO⟩ (Bb false)).setCell ⟨vb,k * 7+1,nO⟩ (Bb true)).setCell ⟨vb,k * 7+2,nO⟩ (I Y 0)).setCell ⟨vb,k * 7+3,nO⟩ (I Y 0)).setCell ⟨vb,k * 7+4,nO⟩ (Bb false)).setCell ⟨vb,k * 7+5,nO⟩ (Bb false)).setCell ⟨vb,k * 7+6,nO⟩ (U (sO ⟨wx.drew.heap.size,0,nO⟩) 1 1)) xb [Bb false,U v.rs v.l.length v.rc,U (sO ⟨fb,0,nO⟩) L.length gcc]):=⟨(⟨⟨false,⟨true,0,0⟩,false,false,[(m:Int)]⟩,sO ⟨wx.drew.heap.size,0,nO⟩,1⟩:Gc),rfl,GZ,hbx,hbw,AZ⟩;have HEX:Hid (aL false v L=x):=EX;have HOF:Hid (Off v (j3 (sO ⟨fb,0,nO⟩) L.length gcc).ownBlock L xb):=OF;have HEK:Hid (i.tgt=k/\at_=m):=⟨ek,em⟩;have HEV:Hid (v.rs=sO ⟨vb,0,nO⟩):=evb;clear GZ hbx hbw AZ GI GN A G EX OF ek em hS hP hb hbd he hn evb eb1 hkx hmx hsz hzd;go_enter Tryz.func153,Tryz.ntmps153
 go_upto_region 0 with fail
 refine aw (S:=(λwx=>wx.cell? ⟨xb,1,nO⟩=sO (U (sO ⟨vb,0,nO⟩) v.l.length v.rc)/\wx.cell? ⟨pb,0,nO⟩=sO (Pp (sO ⟨sb,0,nO⟩))/\wx.cell? ⟨sb,1,nO⟩=sO (I Y (k:Int))/\wx.cell? ⟨sb,9,nO⟩=sO (I Y (m:Int)))) [17] (by kernel_rfl) (HKZ.out _ (bR _ _)) (λhHeld=> ?_);generalize wx.drew=wq at *;refine vZ 0 ?_ ?_;refine vZ 1 ?_ ?_;refine vZ 2 ?_ ?_;refine vZ 3 ?_ ?_;refine vZ 4 ?_ ?_;refine vZ 5 ?_ ?_;refine vZ 6 ?_ ?_;refine vZ 7 ?_ ?_;refine vZ 8 ?_ ?_;refine vZ 9 ?_ ?_;refine vZ 10 ?_ ?_;refine vZ 11 ?_ ?_;refine vZ 12 ?_ ?_;refine vZ 13 ?_ ?_;refine am (i:=14) rfl (by kernel_rfl) (λK hK=> ?_);go_simp;refine hK.out _ _ (HKZ.out _ hba) (λhHeld=> ?_);clear hK K;refine sm ?_;generalize eA:wq.alloc (Cc #[I Y (m:Int)] 3)=wa at *;clear eA;generalize eB:wq.heap.size=nb0 at *;clear eB;refine vZ 15 ?_ ?_;refine vZ 16 ?_ ?_;refine bo (i:=17) rfl (by kernel_rfl) (by kernel_rfl) (λK hK=> ?_);obtain⟨⟨q0,q1,q2,q3,q4,q5,q6⟩,qz⟩:=id GU;have f0:=TH.out (k * 7);have f1:=TH.out (k * 7+1);have f2:=TH.out (k * 7+2);have f3:=TH.out (k * 7+3);have f4:=TH.out (k * 7+4);have f5:=TH.out (k * 7+5);have f6:=TH.out (k * 7+6);go_simp;refine hK.out _ _ ?_;clear hK K q0 q1 q2 q3 q4 q5 q6 qz f0 f1 f2 f3 f4 f5 f6;refine sm ?_;refine ap (by kernel_rfl) ?_ _;generalize eW:(((((((wa.setCell ⟨vb,k * 7,nO⟩ (Bb false)).setCell ⟨vb,k * 7+1,nO⟩ (Bb true)).setCell ⟨vb,k * 7+2,nO⟩ (I Y 0)).setCell ⟨vb,k * 7+3,nO⟩ (I Y 0)).setCell ⟨vb,k * 7+4,nO⟩ (Bb false)).setCell ⟨vb,k * 7+5,nO⟩ (Bb false)).setCell ⟨vb,k * 7+6,nO⟩ (U (sO ⟨nb0,0,nO⟩) 1 1))=w3 at *;clear eW GU TH HKZ hba;obtain⟨y,ey,G3,hbx,hbw,A3⟩:=HH.out;have HEY:Hid (y.g=⟨false,⟨true,0,0⟩,false,false,[(m:Int)]⟩):=ey;clear HH ey;have hd3:Below w3.heap.size w3 w3.drew:=(bR _ _).drew;have G4:=G3.call hd3;have A4:=A3.call hd3;have hbx4:=hbx.drew;have hbw4:=hbw.drew;clear G3 A3 hbx hbw hd3;have hcm:=(G4.fform (by omega));obtain⟨fb',efb',-,-,hcm⟩:=hcm;cases efb';have HK1:Hid (w3.drew.cell? ⟨xb,2,nO⟩=sO (U (sO ⟨fb,0,nO⟩) L.length gcc)/\w3.drew.cell? ⟨pb,0,nO⟩=sO (Pp (sO ⟨sb,0,nO⟩))/\w3.drew.cell? ⟨sb,9,nO⟩=sO (I Y (m:Int))/\w3.drew.cell? ⟨fb,m,nO⟩=sO (U L[m].rs L[m].l.length L[m].rc)):=⟨A4.1 2 _ rfl,(HSP.out _ hbw4).1,(HSP.out _ hbw4).2.2,hcm m hmL⟩;clear hcm
 go_upto_region 1 with fail
 refine aw (S:=(λwx=>wx.cell? ⟨xb,2,nO⟩=sO (U (sO ⟨fb,0,nO⟩) L.length gcc)/\wx.cell? ⟨pb,0,nO⟩=sO (Pp (sO ⟨sb,0,nO⟩))/\wx.cell? ⟨sb,9,nO⟩=sO (I Y (m:Int))/\wx.cell? ⟨fb,m,nO⟩=sO (U L[m].rs L[m].l.length L[m].rc))) [] (by kernel_rfl) HK1.out (λhHeld=> ?_);generalize w3.drew=w4 at *;refine vZ 0 ?_ ?_;refine vZ 1 ?_ ?_;refine vZ 2 ?_ ?_;refine vZ 3 ?_ ?_;refine vZ 4 ?_ ?_;refine vZ 5 ?_ ?_;refine vZ 6 ?_ ?_;refine vZ 7 ?_ ?_;refine vZ 8 ?_ ?_;refine vZ 9 ?_ ?_;refine vZ 10 ?_ ?_;refine vZ 11 ?_ ?_;refine ap (by kernel_rfl) ?_ _;clear HK1;go_wp2;go_loopw [32] (λi wr=>∃j:Nat,j<=L[m].l.length/\i=I Y j/\Cells wr xb [Bb false,U v.rs v.l.length v.rc,U (sO ⟨fb,0,nO⟩) L.length gcc]/\PicG (ClT n sb eb xb) w.heap.size wr ⟨v.rs,v.rc,v.l.set k y⟩ (sO ⟨fb,0,nO⟩) gcc (cD L m j hmL)/\Below w.heap.size wx wr/\Below w.heap.size w wr) (λi _=>L[m].l.length - (intOf i).toNat)
 case atStart=>exact⟨0,j4 _,rfl,A4,by rw[ur];exact G4,hbx4,hbw4⟩
 case round=>
  clear A4 G4 hbx4 hbw4;obtain⟨j,hj,rfl,AR,GR,BR,CR⟩:=hrel;by_cases hlt:j < L[m].l.length
  ·have j0:(0:Int)<=(j:Int):=by omega
   have j1:(j:Int) < (L[m].l.length:Int):=by omega
   have hdw:Below wr.heap.size wr wr.drew:=(bR _ _).drew;have A5:=AR.call hdw;have G5:=GR.call hdw;have B5:=BR.drew;have C5:=CR.drew;clear AR GR BR CR hdw;have hm':m < (cD L m j hmL).length:=by rw[fj];exact hmL
   have RW:=G5.rows _ (gM hm');have nx:roB (cD L m j hmL)[m]≠sO xb:=(nulR_off.2 HOF.out).2.2 _ (gM hm');rw[kg] at RW nx;obtain⟨rb,erb,erB,hrb,zrb⟩:=RW.form (by show 0 < (go j L[m].l).length;rw[fI];omega);have nxr:xb≠rb:=λe=>nx (by rw[erB,e]);have GUR:=RW.gu erb (k:=j) (by show j < (go j L[m].l).length;rw[fI];exact hlt);have q0:=GUR.1.1;have f0:=RW.thaw erb (j * 7);have erb':L[m].rs=sO ⟨rb,0,nO⟩:=erb;obtain⟨fb',efb',-,-,hcm⟩:=G5.fform (by rw[fj];omega);cases efb';have hcm':=hcm m hm';rw[wE,erb'] at hcm';have HK4:Hid (wr.drew.cell? ⟨xb,2,nO⟩=sO (U (sO ⟨fb,0,nO⟩) L.length gcc)/\wr.drew.cell? ⟨pb,0,nO⟩=sO (Pp (sO ⟨sb,0,nO⟩))/\wr.drew.cell? ⟨sb,9,nO⟩=sO (I Y (m:Int))/\wr.drew.cell? ⟨fb,m,nO⟩=sO (U (sO ⟨rb,0,nO⟩) L[m].l.length L[m].rc)):=⟨A5.1 2 _ rfl,(HSP.out _ C5).1,(HSP.out _ C5).2.2,hcm'⟩;have HN:Hid (Cells (wr.drew.setCell ⟨rb,j * 7,nO⟩ (Bb true)) xb [Bb false,U v.rs v.l.length v.rc,U (sO ⟨fb,0,nO⟩) L.length gcc]/\PicG (ClT n sb eb xb) w.heap.size (wr.drew.setCell ⟨rb,j * 7,nO⟩ (Bb true)) ⟨v.rs,v.rc,v.l.set k y⟩ (sO ⟨fb,0,nO⟩) gcc (cD L m (j+1) hmL)/\Below w.heap.size wx (wr.drew.setCell ⟨rb,j * 7,nO⟩ (Bb true))/\Below w.heap.size w (wr.drew.setCell ⟨rb,j * 7,nO⟩ (Bb true))):=⟨A5.far nxr _,G5.nul erb' hlt,B5.setCell hrb _,C5.setCell hrb _⟩;have HQ0:=aa (And.intro q0 f0);clear A5 G5 B5 C5 RW nx erb erB hcm hcm' GUR erb' q0 f0
   go_upto_region 4 with fail
   refine aw (S:=(λwx=>wx.cell? ⟨xb,2,nO⟩=sO (U (sO ⟨fb,0,nO⟩) L.length gcc)/\wx.cell? ⟨pb,0,nO⟩=sO (Pp (sO ⟨sb,0,nO⟩))/\wx.cell? ⟨sb,9,nO⟩=sO (I Y (m:Int))/\wx.cell? ⟨fb,m,nO⟩=sO (U (sO ⟨rb,0,nO⟩) L[m].l.length L[m].rc))) [13] (by kernel_rfl) HK4.out (λhHeld=> ?_);generalize wr.drew=w5 at *;refine vZ 0 ?_ ?_;refine vZ 1 ?_ ?_;refine vZ 2 ?_ ?_;refine vZ 3 ?_ ?_;refine vZ 4 ?_ ?_;refine vZ 5 ?_ ?_;refine vZ 6 ?_ ?_;refine vZ 7 ?_ ?_;refine vZ 8 ?_ ?_;refine vZ 9 ?_ ?_;refine vZ 10 ?_ ?_;refine vZ 11 ?_ ?_;refine vZ 12 ?_ ?_;refine bo (i:=13) rfl (by kernel_rfl) (by kernel_rfl) (λK hK=> ?_);obtain⟨q0,f0⟩:=HQ0.out;go_simp;refine hK.out _ _ ?_;clear hK K;refine sm ?_;refine ap (by kernel_rfl) ?_ _;clear HK4 HQ0;go_wp2;go_roundw
   case rel=>exact⟨j+1,by omega,by go_num,HN.out.1,HN.out.2.1,HN.out.2.2.1,HN.out.2.2.2⟩
   case measure=>simp[intOf];omega
  ·have j1:¬(j:Int) < (L[m].l.length:Int):=by omega
   have HF:Hid (∃v' gs' gc' L',kC n sb eb w.heap.size wr xb v' gs' gc' L' (aO (fA at_ x) i.tgt ⟨false,⟨true,0,0⟩,false,false,[at_]⟩)):=by
    refine⟨⟨v.rs,v.rc,v.l.set k y⟩,sO ⟨fb,0,nO⟩,gcc,cD L m j hmL,zxb,?_,GR,nulR_off.2 ((Off.same (ge (by simp))).2 HOF.out),?_⟩
    ·simp only[q7,fj]
     exact AR
    ·rw[vr (by omega),dA,HEX.out,HEY.out,HEK.out.1,HEK.out.2]
     rfl
   clear AR GR CR;go_wp2
   first|go_end0|refine bodyPost_ret (results_none rfl _ _ _) rfl ?_
   exact⟨rfl,HF.out,BR⟩
theorem Fs {T:Nat->Prop}{V F:Int}{s:oA}{c:List Ins}{cap m:Nat}{i:Ins}{x:Pic}{vs:oA}{vc:Nat}{fs:oA}{fc:Nat}{w:World}{w3 w4 w7 w11 wp:World}{v:Ro}{gs:oA}{gc:Nat}{L:List Ro}(hx:PicOn T w x vs fs)(K:SCtx V F c x vc fc i (m:Int))(hk:i.k=11)(SP:Hid (SPre T V F s c cap (m:Int) i x vs vc fs fc w wp (w.heap.size+1+1) w3.heap.size w4.heap.size w7.heap.size (w7.heap.size+1) w11.heap.size w3 v gs gc L noneG nO 0 noneG nO 0)):SwT (λe w'=>bM (λb=>T b\/w.heap.size<=b) w' e (aj i (m:Int) x)/\Below w.heap.size w w') m w w3 w4 w7 w11 wp:=by
 have HKK:=aa hk;clear hk;have HK:=aa K;have HX:=aa hx;have h60:=K.lens.2.1;have n0:(0:Int)<=(m:Int):=K.a0;have n1:(m:Int) < (c.length:Int):=K.a1;have hm:m < c.length:=by omega
 have w61:(m:Int)<=60:=by omega
 clear K hx;refine fG rfl λz0 z2 z4 u=> ?_;simp only[j2,j2.loop,j6];obtain⟨BP,PP,XP,IP,YP,OP,AP,EP,TP,GAI,GBI,GOW,YW,-,EPV0,-,o2,o3,o4,o5,o6⟩:=SP.out;have EPV:=aa EPV0;clear EPV0;have i0:=IP.1 0 _ rfl;rw[HKK.out] at i0;obtain⟨kt,ekt,hktx⟩:=HK.out.varTo (by rw[HKK.out];rfl);have HKT:=aa ekt;clear ekt;obtain⟨f,ef⟩:=x2 HK.out.lens.2.2.2.1;have hf3:f<=3:=by have h:=HK.out.lens.2.2.2.2.1;omega
 have hmL:m < L.length:=by have h:=HK.out.kx.flds;rw[EPV.out] at h;simp[aL] at h;omega
 have hrow:L[m].l.length=f:=by
  have h:=HK.out.kx.row m (by rw[EPV.out];simpa[aL] using hmL);have e:x.flds[m]'(by rw[EPV.out];simpa[aL] using hmL)=roG L[m]:=by
   have:∀(y:Pic) (h:m < y.flds.length) (hy:y=aL false v L),y.flds[m]=roG L[m]:=by intro y h hy;subst hy;simp[aL]
   exact this x _ EPV.out
  rw[e] at h;simp[roG] at h;omega
 obtain⟨gg,hgg⟩:∃g:Gs,g=⟨false,⟨true,0,0⟩,false,false,[(m:Int)]⟩:=⟨_,rfl⟩;obtain⟨ss,hss⟩:∃a:oA,a=sO ⟨wp.heap.size,0,nO⟩:=⟨_,rfl⟩;obtain⟨cp,hcp⟩:∃a:Nat,a=1:=⟨_,rfl⟩;have HST:Hid (aj i (m:Int) x=if ag gg then([],false,false) else([⟨(m:Int)+1,aO (fA (m:Int) x) i.tgt gg⟩],false,false)):=by show _=_;rw[hgg];simp[aj,aN,HK.out.kx.none,HKK.out]
 have hng:Hid (ag gg=false):=by show _=_;rw[hgg];simp[ag,aG]
 have HGG:=aa (And.intro hgg (And.intro hss hcp));have HEF:=aa ef;clear hgg hss hcp ef;have hba:Below wp.heap.size wp (wp.alloc (Cc #[I Y (m:Int)] 3)):=by go_grown
 have z6:=(TP.call hba).1 6 _ rfl;have fz6:=(TP.call hba).2.2 6
 go_upto_region 72 with fail
 clear z6 fz6;have NA:Cells (wp.alloc (Cc #[I Y (m:Int)] 3)) wp.heap.size [I Y (m:Int)]:=Cells.new wp 3 [I Y (m:Int)];have HTZ:Hid (w11.heap.size < wp.heap.size):=TP.2.1;have TQ:=TP.call hba;have IQ:=IP.call hba;have YQ:=YP.call hba;have OQ:=OP.call hba;have PQ:=PP.call hba;have BQ:=BP.trans (hba.mono BP.size);have YWQ:=YW.trans (hba.mono YW.size);clear TP IP YP OP BP YW hba PP XP AP EP GAI GBI;generalize wp.alloc (Cc #[I Y (m:Int)] 3)=wq at *;obtain⟨wk,ewk⟩:∃q,q=bm wq (w11.heap.size) 6 [U (sO ⟨wp.heap.size,0,nO⟩) 1 1]:=⟨_,rfl⟩;have PU:=bE TQ 6 _ ewk;simp only[bm] at ewk;rw[<-ewk];clear ewk;have TK:=PU.cells;have IK:=PU.keep IQ;have YK:=PU.keep YQ;have OK:=PU.keep OQ;have PK:=PU.keep PQ;have NK:=PU.keep NA (by have:=HTZ.out;omega)
 have BK:=PU.low (by omega) BQ;have YWK:=PU.low (by omega) YWQ;clear PU TQ IQ YQ OQ PQ NA BQ YWQ;generalize wp.heap.size=nb at *;have GK:=GOW.same (w':=wk) (λb _ hlt=>YWK.block b hlt) YWK.size;have p1:=PK.1 1 _ rfl;rw[HEF.out] at p1;go_wp2;clear p1;obtain⟨fb,efb,hfb,zfb,-⟩:=GOW.fform (by omega);have HRF:Hid (0 < f->∃rb,L[m].rs=sO ⟨rb,0,nO⟩/\w.heap.size+1+1+1<=rb/\rb < w3.heap.size/\rb≠fb):=λh=>by
  obtain⟨rb,e1,e2,e3,e4⟩:=(GOW.rows _ (gM hmL)).form (by omega);refine⟨rb,e1,e3,e4,λe=> ?_⟩;exact GOW.df fb (by rw[efb];rfl) _ (gM hmL) (by rw[e2,e])
 go_loopw [27] (λi_ wr=>∃(j:Nat),j<=f/\i_=I Y j/\PicG (λb=>w.heap.size<=b) (w.heap.size+1+1+1) wr v gs gc (cD L m j hmL)/\(∀b,b < w.heap.size+1+1+1\/w3.heap.size<=b->wr.heap[b]? =wk.heap[b]?)/\wk.heap.size<=wr.heap.size/\Below w.heap.size w wr) (λi_ _=>f - (intOf i_).toNat)
 case atStart=>exact⟨0,j4 _,rfl,by rw[ur];exact GK,λ_ _=>rfl,lR _,BK⟩
 case round=>
  obtain⟨j,hj,rfl,GR,hsm,hsz,BR⟩:=hrel;have od:Hid (w3.heap.size < w4.heap.size/\w4.heap.size < w11.heap.size):=⟨o3,by omega⟩;by_cases hlt:j < f
  ·have j0:(0:Int)<=(j:Int):=by omega
   have j1:(j:Int) < (f:Int):=by omega
   obtain⟨rb,erb,hrb,zrb,hne⟩:=HRF.out (by omega);have PR:=PK.same (hsm _ (.inl (by omega))) hsz;have YR:=YK.same (hsm _ (.inr (by omega))) hsz;have p1:=PR.1 1 _ rfl;rw[HEF.out] at p1;have y2:=YR.1 2 _ rfl;rw[efb] at y2;have hjl:j < L[m].l.length:=by omega
   have GN:=GR.nul erb hjl;have hm':m < (cD L m j hmL).length:=by rw[fj];exact hmL
   obtain⟨fb2,efb2,-,-,hcf⟩:=GR.fform (by omega);have hcm:=hcf m hm';rw[wE,erb] at hcm;have hfe:fb2=fb:=by rw[efb] at efb2;cases efb2;rfl
   subst hfe;have RW:=GR.rows _ (gM hm');have erb':((cD L m j hmL)[m]).rs=sO ⟨rb,0,nO⟩:=by rw[kg];exact erb
   have hjl':j < ((cD L m j hmL)[m]).l.length:=by rw[kg];simpa[fI] using hjl
   obtain⟨⟨g0,-⟩,-⟩:=RW.gu erb' (k:=j) hjl';obtain⟨bv,hbv⟩:∃bv,wr.cell? ⟨rb,j * 7,nO⟩=sO (Bb bv):=⟨_,g0⟩;clear g0;have th:=RW.thaw erb' (j * 7);have m0:(0:Int)<=(m:Int):=by omega
   have mm:(m:Int) < (L.length:Int):=by omega
   have jl:(j:Int) < (L[m].l.length:Int):=by omega
   have HP:Hid (PicG (λb=>w.heap.size<=b) (w.heap.size+1+1+1) (wr.setCell ⟨rb,j * 7,nO⟩ (Bb true)) v gs gc (cD L m (j+1) hmL)/\(∀b,b < w.heap.size+1+1+1\/w3.heap.size<=b->(wr.setCell ⟨rb,j * 7,nO⟩ (Bb true)).heap[b]? =wk.heap[b]?)/\wk.heap.size<=(wr.setCell ⟨rb,j * 7,nO⟩ (Bb true)).heap.size/\Below w.heap.size w (wr.setCell ⟨rb,j * 7,nO⟩ (Bb true))):=⟨GN,λb hb=>by rw[hSe _ _ _ _ (by simp only;omega)];exact hsm b hb,by simpa[j7] using hsz,BR.setCell (by simp only;omega) _⟩;clear GN RW hcf GR hsm PR YR efb2 erb' hjl' hm';go_wp2;go_roundw
   case rel=>exact⟨j+1,by omega,by go_num,HP.out.1,HP.out.2.1,HP.out.2.2.1,HP.out.2.2.2⟩
   case measure=>simp[intOf];omega
  ·have j1:¬(j:Int) < (f:Int):=by omega
   have PR:=PK.same (hsm _ (.inl (by omega))) hsz;have p1:=PR.1 1 _ rfl;rw[HEF.out] at p1;have ej:j=f:=by omega
   have EPX:Hid (fA (m:Int) x=aL false v (cD L m j hmL)):=by show _=_;rw[vr (by omega),<-EPV.out]
   have TX:Cells wr w11.heap.size [Bb gg.n,Bb gg.sp.n,I Y gg.sp.lo,I Y gg.sp.hi,Bb gg.t,Bb gg.f,U ss gg.s.length cp]:=by rw[HGG.out.1,HGG.out.2.1,HGG.out.2.2];exact TK.same (hsm _ (.inr (by have:=od.out;omega))) hsz
   have IX:=IK.same (hsm _ (.inl (by omega))) hsz;have YX:=YK.same (hsm _ (.inr (by omega))) hsz;have OX:=OK.same (hsm _ (.inr (by have:=od.out;omega))) hsz
   have NX:=NK.same (hsm _ (.inr (by have:=HTZ.out;have:=od.out;omega))) hsz
   have BX:=BR;have YWX:True:=trivial;have HGI:Hid (IntsIn (λb=>(T b/\b < w.heap.size)\/w3.heap.size<=b) wr ss gg.s):=by
    show IntsIn _ _ _ _;rw[HGG.out.1,HGG.out.2.1];refine .inr ⟨nb,0,rfl,.inr (by have:=HTZ.out;have:=od.out;omega),NX.2.1,λk hk=> ?_⟩;have h0:k=0:=by simp at hk;omega
    subst h0;exact NX.1 0 _ rfl
   have HCP:Hid (gg.s.length<=cp/\cp<=maxLen):=by
    rw[HGG.out.1,HGG.out.2.2];exact⟨by simp,by unfold maxLen;omega⟩
   have HGX:=aa GR;clear GR hsm PR NX IK YK OK NK PK TK BK YWK GK HGG j1;generalize wr=wx at *
   go_upto_region 84 with fail
   clear p1;have HIS:Hid (∀wz,Calls pG 116 #[Ag #[Bb gg.n,Bb gg.sp.n,I Y gg.sp.lo,I Y gg.sp.hi,Bb gg.t,Bb gg.f,U ss gg.s.length cp]] wz λe w'=>e=Rt (Bb false)/\Below wz.heap.size wz w'):=λwz=>by have h:=ba gg ss cp wz;rw[hng.out] at h;exact h
   have t0:=TX.1 0 _ rfl;have t1:=TX.1 1 _ rfl;have t2:=TX.1 2 _ rfl;have t3:=TX.1 3 _ rfl;have t4:=TX.1 4 _ rfl;have t5:=TX.1 5 _ rfl;have t6:=TX.1 6 _ rfl;go_wp2_with (go_at_call 116;fail);refine((HIS.out wx).mono ?_);rintro e wy ⟨rfl,hby⟩;clear t0 t1 t2 t3 t4 t5 t6;have TY:=TX.call hby
   have IY:=IX.call hby
   have YY:=YX.call hby
   have OY:=OX.call hby
   have BY:=BX.trans (hby.mono BX.size);have YWY:True:=trivial;have HGY:=aa (IntsIn.call HGI.out hby);clear TX IX YX OX BX YWX HIS HGI;have GP:=HGX.out.call hby
   have GC0:=nM (T:=T) (y:=⟨gg,ss,cp⟩) GOW (by omega) (by omega) HGY.out HCP.out.1 HCP.out.2;have GC:bH (λb=>(T b\/w.heap.size<=b)/\Off v (j3 gs (cD L m j hmL).length gc).ownBlock (cD L m j hmL) b) wy ⟨gg,ss,cp⟩:=⟨GC0.1.mono λb hb _=>⟨hb.1,by rw[fj];exact nulR_off.2 hb.2⟩,GC0.2⟩;clear GC0;have hktv:kt < v.l.length:=by have h:=hktx;rw[EPV.out] at h;simpa[aL,roG] using h
   obtain⟨vb,evb,eb1,hvb,zvb⟩:=GOW.vars.form (by omega);have GP2:=(GP.mono (T':=λb=>T b\/w.heap.size<=b) λb hb _=>.inr hb);have GS:=GP2.setV evb hktv GC;have GU:=GP.vars.gu evb (k:=kt) hktv;obtain⟨⟨u0,u1,u2,u3,u4,u5,u6⟩,uz⟩:=GU;have TH:=GP.vars.thaw evb;have f0:=TH (kt * 7);have f1:=TH (kt * 7+1);have f2:=TH (kt * 7+2);have f3:=TH (kt * 7+3);have f4:=TH (kt * 7+4);have f5:=TH (kt * 7+5);have f6:=TH (kt * 7+6);have y1:=YY.1 1 _ rfl;rw[evb] at y1;have i1:=IY.1 1 _ rfl;rw[HKT.out] at i1;have t0:=TY.1 0 _ rfl;have t1:=TY.1 1 _ rfl;have t2:=TY.1 2 _ rfl;have t3:=TY.1 3 _ rfl;have t4:=TY.1 4 _ rfl;have t5:=TY.1 5 _ rfl;have t6:=TY.1 6 _ rfl;have q0:(0:Int)<=(kt:Int):=by omega
   have q1:(kt:Int) < (v.l.length:Int):=by omega
   have HEV:=aa evb;have OS:Cells (bP wy vb kt ⟨gg,ss,cp⟩) w4.heap.size [I Y ((m:Int)+1),Bb false,U v.rs v.l.length v.rc,U gs (cD L m j hmL).length gc]:=by rw[fj];exact OY.same (cU (by omega)) (by rw[cN];exact lR _)
   have BS:Below w.heap.size w (bP wy vb kt ⟨gg,ss,cp⟩):=dd BY (by omega);have HF:Hid (bM (λb=>T b\/w.heap.size<=b) (bP wy vb kt ⟨gg,ss,cp⟩) (Rt (Tu #[U (sO ⟨w4.heap.size,0,nO⟩) 1 1,Bb false,Bb false])) (aj i (m:Int) x)):=by
    show bM _ _ _ _;rw[HST.out,if_neg (by rw[hng.out];decide)];refine⟨sO ⟨w4.heap.size,0,nO⟩,1,rfl,?_⟩;refine ia (S:=(λb=>T b\/w.heap.size<=b)) (v:=⟨v.rs,v.rc,v.l.set kt ⟨gg,ss,cp⟩⟩) (L:=(cD L m j hmL)) (by simp only[q7];exact OS) (.inr (by omega)) GS (λb hb=>hb) (λb hb=>.inr (by omega)) ?_;rw[dA,<-EPX.out,HKT.out]
   clear GP GC GP2 GS TH TY IY YY OY OS BY HGY GOW YWY EPV evb;obtain⟨wv,ewv⟩:∃q,q=bP wy vb kt ⟨gg,ss,cp⟩:=⟨_,rfl⟩;have HF2:=aa (And.intro HF.out BS);rw[<-ewv] at HF2
   go_upto_region 87 with fail
   clear u0 u1 u2 u3 u4 u5 u6 uz f0 f1 f2 f3 f4 f5 f6 t0 t1 t2 t3 t4 t5 t6 y1 i1 HF BS;simp only[bP] at ewv;rw[<-ewv];clear ewv;go_wp2;refine bodyPost_ret (v:=Tu #[U (sO ⟨w4.heap.size,0,nO⟩) 1 1,Bb false,Bb false]) (by simp[results,Tryz.results59,go_sem]) rfl HF2.out
def goC:List Nat->Option Code->Option Code
 |[],o=>o
 |0::p,sO (.seq a _)=>goC p (sO a)
 |_::p,sO (.seq _ b)=>goC p (sO b)
 |0::p,sO (.cond _ a _)=>goC p (sO a)
 |_::p,sO (.cond _ _ b)=>goC p (sO b)
 |_::p,sO (.block _ c)=>goC p (sO c)
 |_::_,_=>nO
theorem mX {P:Program}{Q:Exit->Act->World->Prop}{a:Act}{w:World}{o:Option Code}{c d:Code}(h:o=sO c)(h':o=sO d)(hw:d.wp P Q a w):c.wp P Q a w:=by
 cases h.symm.trans h';exact hw
theorem ERow.down {n n' sb:Nat}{w:World}{v:Value}{L:List Ed}(h:ERow n sb w v L)(hn:n'<=n):ERow n' sb w v L:=⟨dB h.own hn,h.off,λe he=>⟨(h.pics e he).1.mono λ_ hb _=>⟨lT hn hb.1,hb.2⟩,(h.pics e he).2⟩⟩
theorem Df {K K4:Act->World->Prop}{R:Ending->World->Prop}{c':Code}{z:Nat->Value}{tl:List Value}{K3:Act->World->Prop}{vb2:Nat}{slo shi:Int}{tb:Bool}{sv':Value}{wv:World}(hc:goC [1,1,1,1,1,1,1,1,1,1,0,1,0,1,1,1,1,1,1,1,0,1,1,0,1,0,1,1,1,0,1,0] Tryz.f59.body=sO c')(hl:tl.length=317)(hv:Cells wv vb2 [Bb false,Bb false,I Y slo,I Y shi,Bb tb,Bb false,sv'])(hle:slo<=shi)
  (H:∀(w':World) (tl':List Value),tl'.length=317->Put vb2 wv w' [Bb false,Bb (bI ⟨false,slo,shi⟩).n,I Y (bI ⟨false,slo,shi⟩).lo,I Y (bI ⟨false,slo,shi⟩).hi,Bb tb,Bb false,sv']->K ⟨((j2 20).map z++Pp (sO ⟨vb2,0,nO⟩)::tl').toArray,[]⟩ w'):c'.wp pG (Exit.then K (Exit.then K3 (Exit.inBlock 0 (Exit.then K4 (bodyPost pG Tryz.f59 R))))) ⟨((j2 20).map z++Pp (sO ⟨vb2,0,nO⟩)::tl).toArray,[]⟩ wv:=by
 obtain⟨u,rfl⟩:=gP tl _ hl;refine mX hc rfl ?_;simp only[j2,j2.loop,j6,z8,q8] at H |-;have HH:=aa H;clear H hc hl;have HDP:Hid (Put vb2 wv wv.drew [Bb false,Bb false,I Y slo,I Y shi,Bb tb,Bb false,sv']):=⟨hv.call (bR _ _).drew,λ_ _=>rfl,lR _,λ_ h=>h.drew⟩;clear hv
 go_upto_region 31 with fail
 refine aw (S:=(λwx=>wx.cell? ⟨vb2,2,nO⟩=sO (I Y slo)/\wx.cell? ⟨vb2,3,nO⟩=sO (I Y shi))) [] (by kernel_rfl) ⟨HDP.out.cells.1 2 _ rfl,HDP.out.cells.1 3 _ rfl⟩ (λhHeld=> ?_);generalize wv.drew=wd at *;refine vZ 0 ?_ ?_;refine vZ 1 ?_ ?_;refine vZ 2 ?_ ?_;refine vZ 3 ?_ ?_;refine vZ 4 ?_ ?_;refine vZ 5 ?_ ?_;refine vZ 6 ?_ ?_;refine vZ 7 ?_ ?_;refine ap (by kernel_rfl) ?_ _;have k1:=HDP.out.cells.1 1 _ rfl;have fk1:=HDP.out.cells.2.2 1;have k2:=HDP.out.cells.1 2 _ rfl;have fk2:=HDP.out.cells.2.2 2;have k3:=HDP.out.cells.1 3 _ rfl;have fk3:=HDP.out.cells.2.2 3;by_cases e1:slo=0
 ·have eb1:(slo==0)=true:=by simpa using e1
  by_cases e2:shi=0
  ·have eb2:(shi==0)=true:=by simpa using e2
   have HQ:Hid (bI ⟨false,slo,shi⟩=⟨true,0,0⟩):=by show _=_;unfold bI;simp only[e1,e2];simp;try omega
   clear e1 e2 hle;go_wp2_with fail;obtain⟨wz,ez⟩:∃q,q=bm wd vb2 1 [Bb false,I Y 1,I Y (-1)]:=⟨_,rfl⟩;have PZ:Put vb2 wd wz [Bb false,Bb false,I Y 1,I Y (-1),Bb tb,Bb false,sv']:=bE HDP.out.cells 1 _ ez;obtain⟨wy,ey⟩:∃q,q=bm wz vb2 1 [Bb true,I Y 0,I Y 0]:=⟨_,rfl⟩;have PY:Put vb2 wz wy [Bb false,Bb true,I Y 0,I Y 0,Bb tb,Bb false,sv']:=bE PZ.cells 1 _ ey;simp only[bm] at ey;simp only[bm] at ez;rw[<-ez];rw[<-ey];refine HH.out _ _ (by rfl) ?_;rw[HQ.out];exact HDP.out.trans (PZ.trans PY)
  ·have eb2:(shi==0)=false:=by simpa using e2
   have h3:¬shi < 1:=by omega
   have HQ:Hid (bI ⟨false,slo,shi⟩=⟨false,1,shi⟩):=by show _=_;unfold bI;simp only[e1,e2];simp;try omega
   clear e1 e2 hle;go_wp2_with fail;obtain⟨wz,ez⟩:∃q,q=bm wd vb2 1 [Bb false,I Y 1,I Y shi]:=⟨_,rfl⟩;have PZ:Put vb2 wd wz [Bb false,Bb false,I Y 1,I Y shi,Bb tb,Bb false,sv']:=bE HDP.out.cells 1 _ ez;simp only[bm] at ez;rw[<-ez];refine HH.out _ _ (by rfl) ?_;rw[HQ.out];exact HDP.out.trans PZ
 ·have eb1:(slo==0)=false:=by simpa using e1
  by_cases e2:shi=0
  ·have eb2:(shi==0)=true:=by simpa using e2
   have h3:¬(-1:Int) < slo:=by omega
   have HQ:Hid (bI ⟨false,slo,shi⟩=⟨false,slo,-1⟩):=by show _=_;unfold bI;simp only[e1,e2];simp;try omega
   clear e1 e2 hle;go_wp2_with fail;obtain⟨wz,ez⟩:∃q,q=bm wd vb2 1 [Bb false,I Y slo,I Y (-1)]:=⟨_,rfl⟩;have PZ:Put vb2 wd wz [Bb false,Bb false,I Y slo,I Y (-1),Bb tb,Bb false,sv']:=bE HDP.out.cells 1 _ ez;simp only[bm] at ez;rw[<-ez];refine HH.out _ _ (by rfl) ?_;rw[HQ.out];exact HDP.out.trans PZ
  ·have eb2:(shi==0)=false:=by simpa using e2
   have h3:¬shi < slo:=by omega
   have HQ:Hid (bI ⟨false,slo,shi⟩=⟨false,slo,shi⟩):=by show _=_;unfold bI;simp only[e1,e2];simp;try omega
   clear e1 e2 hle;go_wp2_with fail;obtain⟨wz,ez⟩:∃q,q=bm wd vb2 1 [Bb false,I Y slo,I Y shi]:=⟨_,rfl⟩;have PZ:Put vb2 wd wz [Bb false,Bb false,I Y slo,I Y shi,Bb tb,Bb false,sv']:=bE HDP.out.cells 1 _ ez;simp only[bm] at ez;rw[<-ez];refine HH.out _ _ (by rfl) ?_;rw[HQ.out];exact HDP.out.trans PZ
theorem Fq {K K4:Act->World->Prop}{R:Ending->World->Prop}{c':Code}{z:Nat->Value}{tl:List Value}{m sb:Nat}{i:Ins}{x:Pic}{w wt:World}{ka:Nat}{v2:Ro}{gs2:oA}{gc2:Nat}{L2:List Ro}{vb2 gb:Nat}{tg:Gs}{ss:oA}{cp:Nat}{ws:World}(ta:Int)(hc:goC [1,1,1,1,1,1,1,1,1,1,0,1,0,1,1,1,1,1,1,1,0,1,1,0,1,0,1,1,1,1] Tryz.f59.body=sO c')(hl:tl.length=317)(h1:z 1=I Y (m:Int))(h9:z 9=Pp (sO ⟨w.heap.size+1+1,0,nO⟩))(w61:(m:Int)<=60)(n0:(0:Int)<=(m:Int))(hta:i.k=17/\ta=(m:Int)+1\/i.k=15/\ta=i.g)(eka:i.a=(ka:Int))(hkv:ka < v2.l.length)(hzi:w.heap.size+1+1 < wt.heap.size)(hsb:sb < wt.heap.size)
  (GHS:Cells ws gb [Bb false,U v2.rs v2.l.length v2.rc,U gs2 L2.length gc2])(hgv:roB v2≠sO gb)(IHS:Cells ws (w.heap.size+1+1) [I Y i.k,I Y i.tgt,I Y i.a,I Y i.b,I Y i.n,I Y i.g])(PHS:PicG (λb=>wt.heap.size<=b) (wt.heap.size) ws v2 gs2 gc2 L2)(CS:Cells ws vb2 [Bb tg.n,Bb tg.sp.n,I Y tg.sp.lo,I Y tg.sp.hi,Bb tg.t,Bb tg.f,U ss tg.s.length cp])(GC:bH (λb=>wt.heap.size<=b/\Off v2 (j3 gs2 L2.length gc2).ownBlock L2 b) ws ⟨tg,ss,cp⟩)(BTS:Below wt.heap.size wt ws)(ex2:x=aL false v2 L2)
  (H:∀(ev:List Ed) (t18:Value) (w':World) (tl':List Value),tl'.length=319->ERow wt.heap.size sb w' t18 ev->Hid (ev.map edG=[⟨ta,aO x i.a tg⟩])->Below wt.heap.size wt w'->K ⟨((j2 18).map z++t18::tl').toArray,[]⟩ w'):c'.wp pG (Exit.then K (Exit.inBlock 0 (Exit.then K4 (bodyPost pG Tryz.f59 R)))) ⟨((j2 18).map z++U nO 0 0::Pp (sO ⟨gb,0,nO⟩)::Pp (sO ⟨vb2,0,nO⟩)::tl).toArray,[]⟩ ws:=by
 obtain⟨u,rfl⟩:=gP tl _ hl;refine mX hc rfl ?_;simp only[j2,j2.loop,j6,z8,q8,h1,h9] at H |-;have HH:=aa H;clear H hc hl;have HKAV:=aa eka;have EPW:=aa ex2;have HTA:=aa hta;obtain⟨vb,evb,evB,hvb,zvb⟩:=PHS.vars.form (by omega);have hgb:gb≠vb:=λe=>hgv (by rw[evB,e]);have HEV:=aa evb;clear eka ex2 hta evb evB hgv h1 h9;obtain⟨⟨u0,u1,u2,u3,u4,u5,u6⟩,uz⟩:=PHS.vars.gu HEV.out (k:=ka) hkv;have TH:=PHS.vars.thaw HEV.out;have f0:=TH (ka * 7);have f1:=TH (ka * 7+1);have f2:=TH (ka * 7+2);have f3:=TH (ka * 7+3);have f4:=TH (ka * 7+4);have f5:=TH (ka * 7+5);have f6:=TH (ka * 7+6);have g1:=GHS.1 1 _ rfl;rw[HEV.out] at g1;have i2:=IHS.1 2 _ rfl;rw[HKAV.out] at i2;have t0:=CS.1 0 _ rfl;have t1:=CS.1 1 _ rfl;have t2:=CS.1 2 _ rfl;have t3:=CS.1 3 _ rfl;have t4:=CS.1 4 _ rfl;have t5:=CS.1 5 _ rfl;have t6:=CS.1 6 _ rfl;obtain⟨wz,ewz⟩:∃q,q=bP ws vb ka ⟨tg,ss,cp⟩:=⟨_,rfl⟩;have HF:Hid (Cells wz gb [Bb false,U v2.rs v2.l.length v2.rc,U gs2 L2.length gc2]/\Cells wz (w.heap.size+1+1) [I Y i.k,I Y i.tgt,I Y i.a,I Y i.b,I Y i.n,I Y i.g]/\PicG (λb=>wt.heap.size<=b) (wt.heap.size) wz ⟨v2.rs,v2.rc,v2.l.set ka ⟨tg,ss,cp⟩⟩ gs2 gc2 L2/\Below wt.heap.size wt wz):=by
  rw[ewz];exact⟨GHS.same (cU hgb) (by rw[cN];exact lR _),IHS.same (cU (by omega)) (by rw[cN];exact lR _),PHS.setV HEV.out hkv GC,dd BTS (by omega)⟩
 have q0:(0:Int)<=(ka:Int):=by omega
 have q1:(ka:Int) < (v2.l.length:Int):=by omega
 clear GHS IHS PHS BTS GC TH CS
 go_upto_region 40 with fail
 clear u0 u1 u2 u3 u4 u5 u6 uz f0 f1 f2 f3 f4 f5 f6 t0 t1 t2 t3 t4 t5 t6 g1 i2;simp only[bP] at ewz;rw[<-ewz];clear ewz;obtain⟨GZ,IZ,PZ,BZ⟩:=HF.out;have HPZ:=aa PZ;have HBZ:=aa BZ;have i5:=IZ.1 5 _ rfl;have g0:=GZ.1 0 _ rfl;have g1:=GZ.1 1 _ rfl;have g2:=GZ.1 2 _ rfl;clear HF PZ BZ
 go_upto_region 41 with fail
 clear g0 g1 g2 i5;have N4:Cells (wz.alloc (Cc #[I Y i.g,Bb false,U v2.rs v2.l.length v2.rc,U gs2 L2.length gc2] 45)) wz.heap.size [I Y i.g,Bb false,U v2.rs v2.l.length v2.rc,U gs2 L2.length gc2]:=Cells.new wz _ [_,_,_,_];have h4:Below wz.heap.size wz (wz.alloc (Cc #[I Y i.g,Bb false,U v2.rs v2.l.length v2.rc,U gs2 L2.length gc2] 45)):=by go_grown
 generalize wz.alloc (Cc #[I Y i.g,Bb false,U v2.rs v2.l.length v2.rc,U gs2 L2.length gc2] 45)=w4a at *;have I4:=IZ.call h4;have i0:=I4.1 0 _ rfl
 go_upto_if 140 with fail
 clear i0
 go_cut [] (λwc=>Put wz.heap.size w4a wc [I Y ta,Bb false,U v2.rs v2.l.length v2.rc,U gs2 L2.length gc2])
 case first=>
  have k0:=N4.1 0 _ rfl;have k1:=N4.2.2 0;have HN4:=aa N4;clear N4;rcases HTA.out with⟨hk,hta⟩|⟨hk,hta⟩
  ·have hb:(i.k==17)=true:=by rw[hk];rfl
   have HE:=aa hta;clear hk hta;go_wp2_with fail;go_meet;obtain⟨wq,eq⟩:∃q,q=bm w4a wz.heap.size 0 [I Y ((m:Int)+1)]:=⟨_,rfl⟩;have PQ:=bE HN4.out 0 _ eq;simp only[bm] at eq;rw[<-eq,HE.out];exact PQ
  ·have hb:(i.k==17)=false:=by rw[hk];rfl
   have HE:=aa hta;clear hk hta;go_wp2_with fail;go_meet;rw[HE.out];exact Put.refl HN4.out
 have PU:=hcut;generalize wc=w5 at *;clear wc N4 I4;have N5:=PU.cells;have h5:Below wz.heap.size wz w5:=PU.low (lR _) h4;have BT5:=HBZ.out.trans (h5.mono HBZ.out.size);have h6:Below w5.heap.size w5 (w5.alloc (Cc #[I Y ta,Bb false,U v2.rs v2.l.length v2.rc,U gs2 L2.length gc2] 45)):=by go_grown
 have P6:=(HPZ.out.call h5).call h6;have BT6:=BT5.trans (h6.mono BT5.size);have z5:=BT5.size;have EDI:pj (λb=>wt.heap.size<=b/\b≠sb/\(j3 nO 0 0).ownBlock≠sO b) (w5.alloc (Cc #[I Y ta,Bb false,U v2.rs v2.l.length v2.rc,U gs2 L2.length gc2] 45)) ⟨ta,aL false ⟨v2.rs,v2.rc,v2.l.set ka ⟨tg,ss,cp⟩⟩ L2,v2.rs,v2.rc,gs2,gc2⟩:=by
  refine⟨(P6.on false).mono λb hb _=> ?_,P6.vcap false,P6.fcap' false⟩;have hb2:wt.heap.size<=b:=by rcases hb with hb|hb<;>exact hb
  exact⟨hb2,by omega,λe=>by cases e⟩
 have c0:=N5.1 0 _ rfl;have c1:=N5.1 1 _ rfl;have c2:=N5.1 2 _ rfl;have c3:=N5.1 3 _ rfl;clear GZ IZ HPZ HBZ N5 PU h4;obtain⟨tk,hik,hik0,hik1,hik2⟩:=info_parts Tryz.info_edge;go_wp2_with (at_builtin;refine aT _ rfl _ _ 41 rfl (wt.heap.size) 45 tk (Ag #[I Y 0,Bb false,U nO 0 0,U nO 0 0]) 4 64 Tryz.underlying41 hik hik0 hik1 hik2 rfl (by decide) _ _ _ rfl (ERow.nil _ sb _).own (sO ⟨w5.heap.size,0,nO⟩) 1 1 (cQ ⟨ta,aL false ⟨v2.rs,v2.rc,v2.l.set ka ⟨tg,ss,cp⟩⟩ L2,v2.rs,v2.rc,gs2,gc2⟩) rfl rfl (λh=>by cases h) ?qc2 (kN _) ?qc4 ?qc5 ?qc6 ?_)
 (try (case qc2=>exact G8 w5 ⟨ta,aL false ⟨v2.rs,v2.rc,v2.l.set ka ⟨tg,ss,cp⟩⟩ L2,v2.rs,v2.rc,gs2,gc2⟩ #[I Y ta,Bb false,U v2.rs v2.l.length v2.rc,U gs2 L2.length gc2] _ (by simp[cQ,aL,roG])))
 (try (case qc4=>unfold maxLen;first|omega|(simp;done)|(simp;omega)))
 (try (case qc5=>first|omega|(simp;done)|(simp;omega)))
 (try (case qc6=>first|omega|(rw[zA];omega)|(simp;omega)|simp))
 intro ev' w6 hown hgrow hat;have RW:=(ERow.nil wt.heap.size sb _).grown EDI hown hgrow (by rw[zA];exact hat) (by rw[zA];omega);have B6:Below wt.heap.size wt w6:=BT6.grown hgrow (by rw[zA];omega) (λk hk=>by cases hk);go_wp2_with fail;exact HH.out _ _ _ _ (by rfl) RW (by show _=_;simp only[q8,j6,edG,dA];rw[<-EPW.out,HKAV.out]) B6
theorem vL {w w':World}{b k:Nat}{x:Gc}(h:w'.heap[b]? =w.heap[b]?):(bP w' b k x).heap[b]? =(bP w b k x).heap[b]? :=by
 simp only[bP,j7,Array.getElem?_modify,if_true,h]
theorem Ej {K K4:Act->World->Prop}{R:Ending->World->Prop}{c':Code}{z:Nat->Value}{tl:List Value}{m:Nat}{i:Ins}{x:Pic}{w w3:World}{b4 ka N:Nat}{v:Ro}{gs:oA}{gc:Nat}{L:List Ro}{ev:List Ed}{es:oA}{ec:Nat}{fg:Gs}{vb2:Nat}{y19 y20 y21 y22 y23:Value}{ws:World}(hc:goC [1,1,1,1,1,1,1,1,1,1,0,1,0,1,1,1,1,1,1,1,0,1,1,1,1,0,1,0,1,1,1] Tryz.f59.body=sO c')(hl:tl.length=313)(h9:z 9=Pp (sO ⟨w.heap.size+1+1,0,nO⟩))(h10:z 10=Pp (sO ⟨w3.heap.size,0,nO⟩))(h11:z 11=U (sO ⟨b4,0,nO⟩) 1 1)(eka:i.a=(ka:Int))(ex:x=aL false v L)(GOW:PicG (λb=>w.heap.size<=b) (w.heap.size+1+1+1) w3 v gs gc L)(o2:w.heap.size+1+1+1<=w3.heap.size)(o3:w3.heap.size < b4)(o4:b4 < N)(hL10:ev.length<=10)(hkv:ka < v.l.length)(hfs:fg.s=[])(IS:Cells ws (w.heap.size+1+1) [I Y i.k,I Y i.tgt,I Y i.a,I Y i.b,I Y i.n,I Y i.g])(YS:Cells ws w3.heap.size [Bb false,U v.rs v.l.length v.rc,U gs L.length gc])(OS:Cells ws b4 [I Y ((m:Int)+1),Bb false,U v.rs v.l.length v.rc,U gs L.length gc])(YW:Below w3.heap.size w3 ws)(BS:Below w.heap.size w ws)(ES:ERow N w3.heap.size ws (U es ev.length ec) ev)(CS:Cells ws vb2 [Bb fg.n,Bb fg.sp.n,I Y fg.sp.lo,I Y fg.sp.hi,Bb fg.t,Bb fg.f,U nO 0 0])
  (H:∀(ev':List Ed) (t18:Value) (w':World) (tl':List Value),tl'.length=319->ERow w.heap.size w3.heap.size w' t18 ev'->Hid (ev'.map edG=ev.map edG++[⟨(m:Int)+1,aO x i.a fg⟩])->Below w.heap.size w w'->K ⟨((j2 18).map z++t18::tl').toArray,[]⟩ w'):c'.wp pG (Exit.then K (Exit.inBlock 0 (Exit.then K4 (bodyPost pG Tryz.f59 R)))) ⟨((j2 18).map z++U es ev.length ec::y19::y20::y21::y22::y23::Pp (sO ⟨vb2,0,nO⟩)::tl).toArray,[]⟩ ws:=by
 obtain⟨u,rfl⟩:=gP tl _ hl;refine mX hc rfl ?_;simp only[j2,j2.loop,j6,z8,q8,h9,h10,h11] at H |-;have HH:=aa H;clear H hc hl;have HKAV:=aa eka;have EPW:=aa ex;have PHS:=GOW.call YW;obtain⟨vb,evb,evB,hvb,zvb⟩:=GOW.vars.form (by omega);have HEV:=aa evb;have HFS:=aa hfs;have zw3:=YW.size;have GC:bH (λb=>w.heap.size<=b/\Off v (j3 gs L.length gc).ownBlock L b) ws ⟨fg,nO,0⟩:=⟨.inl hfs,by rw[show (⟨fg,nO,0⟩:Gc).g.s=[] from hfs];exact lR _,j4 _⟩;have GC3:bH (λb=>w.heap.size<=b/\Off v (j3 gs L.length gc).ownBlock L b) w3 ⟨fg,nO,0⟩:=⟨.inl hfs,by rw[show (⟨fg,nO,0⟩:Gc).g.s=[] from hfs];exact lR _,j4 _⟩;clear eka ex evb evB hfs h9 h10 h11;obtain⟨⟨u0,u1,u2,u3,u4,u5,u6⟩,uz⟩:=PHS.vars.gu HEV.out (k:=ka) hkv;have TH:=PHS.vars.thaw HEV.out;have f0:=TH (ka * 7);have f1:=TH (ka * 7+1);have f2:=TH (ka * 7+2);have f3:=TH (ka * 7+3);have f4:=TH (ka * 7+4);have f5:=TH (ka * 7+5);have f6:=TH (ka * 7+6);have g1:=YS.1 1 _ rfl;rw[HEV.out] at g1;have i2:=IS.1 2 _ rfl;rw[HKAV.out] at i2;have t0:=CS.1 0 _ rfl;have t1:=CS.1 1 _ rfl;have t2:=CS.1 2 _ rfl;have t3:=CS.1 3 _ rfl;have t4:=CS.1 4 _ rfl;have t5:=CS.1 5 _ rfl;have t6:=CS.1 6 _ rfl;obtain⟨wz,ewz⟩:∃q,q=bP ws vb ka ⟨fg,nO,0⟩:=⟨_,rfl⟩;have GV:=PHS.setV HEV.out hkv GC;have EDZ:pj (λb=>w.heap.size<=b/\b < w3.heap.size) wz ⟨(m:Int)+1,aL false ⟨v.rs,v.rc,v.l.set ka ⟨fg,nO,0⟩⟩ L,v.rs,v.rc,gs,gc⟩:=by
  have G3:=GOW.setV HEV.out hkv GC3;have P3:=(G3.on false).mono (S':=λb=>w.heap.size<=b/\b < w3.heap.size) λb hb hlt=>⟨by rcases hb with hb|hb<;>omega,by rw[cN] at hlt;exact hlt⟩;refine⟨?_,G3.vcap false,G3.fcap' false⟩;rw[ewz];refine(P3.same (λb hb _=> ?_) (by rw[cN,cN];exact zw3)).mono λb hb _=>hb.1;by_cases e:b=vb
  ·rw[e];exact vL (YW.block vb zvb)
  ·rw[cU e,cU e];exact YW.block b hb.2
 have HF:Hid (Cells wz b4 [I Y ((m:Int)+1),Bb false,U v.rs v.l.length v.rc,U gs L.length gc]/\ERow N w3.heap.size wz (U es ev.length ec) ev/\Below w.heap.size w wz):=by
  rw[ewz];exact⟨OS.same (cU (by omega)) (by rw[cN];exact lR _),ES.same (λb hb _ _=>cU (by omega)) (by rw[cN];exact lR _),dd BS (by omega)⟩
 have HED:=aa EDZ;have q0:(0:Int)<=(ka:Int):=by omega
 have q1:(ka:Int) < (v.l.length:Int):=by omega
 clear OS ES BS GV PHS GC GC3 TH CS YS IS EDZ GOW YW
 go_upto_region 53 with fail
 clear u0 u1 u2 u3 u4 u5 u6 uz f0 f1 f2 f3 f4 f5 f6 t0 t1 t2 t3 t4 t5 t6 g1 i2;simp only[bP,HFS.out,List.length_nil] at ewz;rw[<-ewz];clear ewz;obtain⟨OZ,EZ,BZ⟩:=HF.out;have E0:=EZ.down (n':=w.heap.size) (by omega);have zz:=BZ.size;have zo:=OZ.2.1;have EDI:pj (λb=>w.heap.size<=b/\b≠w3.heap.size/\(j3 es ev.length ec).ownBlock≠sO b) wz ⟨(m:Int)+1,aL false ⟨v.rs,v.rc,v.l.set ka ⟨fg,nO,0⟩⟩ L,v.rs,v.rc,gs,gc⟩:=⟨HED.out.1.mono λb hb _=>⟨hb.1,by omega,λe=>by have:=(aH EZ.own e).2;omega⟩,HED.out.2⟩
 have HNW:Hid (∀ad,sO (⟨b4,0,nO⟩:Addr)=sO ad->∀j u,(cQ ⟨(m:Int)+1,aL false ⟨v.rs,v.rc,v.l.set ka ⟨fg,nO,0⟩⟩ L,v.rs,v.rc,gs,gc⟩)[j]? =sO u->wz.cell? (ad.add j)=sO u):=λad e j u hj=>by
  cases e;rw[Addr.add_lit,Nat.zero_add];exact OZ.1 j u (by simpa[cQ,aL,roG] using hj)
 clear HF OZ;obtain⟨tk,hik,hik0,hik1,hik2⟩:=info_parts Tryz.info_edge;go_wp2_with (at_builtin;refine aT _ rfl _ _ 41 rfl w.heap.size 45 tk (Ag #[I Y 0,Bb false,U nO 0 0,U nO 0 0]) 4 64 Tryz.underlying41 hik hik0 hik1 hik2 rfl (by decide) _ _ _ rfl E0.own (sO ⟨b4,0,nO⟩) 1 1 (cQ ⟨(m:Int)+1,aL false ⟨v.rs,v.rc,v.l.set ka ⟨fg,nO,0⟩⟩ L,v.rs,v.rc,gs,gc⟩) rfl rfl (λh=>by cases h) HNW.out (kN _) ?qc4 ?qc5 ?qc6 ?_)
 (try (case qc4=>unfold maxLen;first|omega|(simp;done)|(simp;omega)))
 (try (case qc5=>first|omega|(simp;done)|(simp;omega)))
 (try (case qc6=>first|omega|(rw[zA];omega)|(simp;omega)|simp))
 intro ev' w6 hown hgrow hat;have RW:=E0.grown EDI hown hgrow hat (by omega);have B6:Below w.heap.size w w6:=BZ.grown hgrow (by omega) (λk hk=>(aH E0.own hk).2);go_wp2_with fail;exact HH.out _ _ _ _ (by rfl) RW (by show _=_;rw[x1];simp only[j6,edG,dA];rw[<-EPW.out,HKAV.out]) B6
theorem IB {K K4:Act->World->Prop}{R:Ending->World->Prop}{c':Code}{z:Nat->Value}{tl:List Value}{m:Nat}{i:Ins}{x:Pic}{w w3:World}{b4 ka N:Nat}{v:Ro}{gs:oA}{gc:Nat}{L:List Ro}{ev:List Ed}{es:oA}{ec:Nat}{wc:World}(hc:goC [1,1,1,1,1,1,1,1,1,1,0,1,0,1,1,1,1,1,1,1,0,1,1,1,1,0,1,0] Tryz.f59.body=sO c')(hl:tl.length=319)(h9:z 9=Pp (sO ⟨w.heap.size+1+1,0,nO⟩))(h10:z 10=Pp (sO ⟨w3.heap.size,0,nO⟩))(h11:z 11=U (sO ⟨b4,0,nO⟩) 1 1)(eka:i.a=(ka:Int))(ex:x=aL false v L)(GOW:PicG (λb=>w.heap.size<=b) (w.heap.size+1+1+1) w3 v gs gc L)(o2:w.heap.size+1+1+1<=w3.heap.size)(o3:w3.heap.size < b4)(o4:b4 < N)(hL10:ev.length<=10)(hkax:ka < x.vars.length)(IS:Cells wc (w.heap.size+1+1) [I Y i.k,I Y i.tgt,I Y i.a,I Y i.b,I Y i.n,I Y i.g])(YS:Cells wc w3.heap.size [Bb false,U v.rs v.l.length v.rc,U gs L.length gc])(OS:Cells wc b4 [I Y ((m:Int)+1),Bb false,U v.rs v.l.length v.rc,U gs L.length gc])(YW:Below w3.heap.size w3 wc)(BS:Below w.heap.size w wc)(ES:ERow N w3.heap.size wc (U es ev.length ec) ev)
  (H:∀(ev':List Ed) (t18:Value) (w':World) (tl':List Value),tl'.length=319->ERow w.heap.size w3.heap.size w' t18 ev'->Hid (ev'.map edG=ev.map edG++[⟨(m:Int)+1,aO x i.a (bQ x.vars[ka])⟩])->Below w.heap.size w w'->K ⟨((j2 18).map z++t18::tl').toArray,[]⟩ w'):c'.wp pG (Exit.then K (Exit.inBlock 0 (Exit.then K4 (bodyPost pG Tryz.f59 R)))) ⟨((j2 18).map z++U es ev.length ec::tl).toArray,[]⟩ wc:=by
 have hkv:ka < v.l.length:=by have h:=hkax;rw[ex] at h;simpa[aL,roG] using h
 have HIS:Hid (∀wx,Calls pG 113 #[Ag #[Bb x.vars[ka].sp.n,I Y x.vars[ka].sp.lo,I Y x.vars[ka].sp.hi],I Y 0] wx λe w'=>e=Rt (Bb (x.vars[ka].sp.has 0))/\Below wx.heap.size wx w'):=λwx=>tt x.vars[ka].sp 0 wx;have HE0:Hid (∀ws y19 y20 y21 y22 y23 vb2 (tl':List Value),tl'.length=313->Below wc.heap.size wc ws->Cells ws vb2 [Bb (bQ x.vars[ka]).n,Bb (bQ x.vars[ka]).sp.n,I Y (bQ x.vars[ka]).sp.lo,I Y (bQ x.vars[ka]).sp.hi,Bb (bQ x.vars[ka]).t,Bb (bQ x.vars[ka]).f,U nO 0 0]->∀c'',goC [1,1,1,1,1,1,1,1,1,1,0,1,0,1,1,1,1,1,1,1,0,1,1,1,1,0,1,0,1,1,1] Tryz.f59.body=sO c''->c''.wp pG (Exit.then K (Exit.inBlock 0 (Exit.then K4 (bodyPost pG Tryz.f59 R)))) ⟨((j2 18).map z++U es ev.length ec::y19::y20::y21::y22::y23::Pp (sO ⟨vb2,0,nO⟩)::tl').toArray,[]⟩ ws):=λws y19 y20 y21 y22 y23 vb2 tl' hl' hb hp c'' hc''=>
  Ej hc'' hl' h9 h10 h11 eka ex GOW o2 o3 o4 hL10 hkv rfl (IS.call hb) (YS.call hb) (OS.call hb) (YW.trans (hb.mono YW.size)) (BS.trans (hb.mono BS.size)) (ES.call hb) hp H
 have HKAV:=aa eka;have EPW:=aa ex;obtain⟨u,rfl⟩:=gP tl _ hl;refine mX hc rfl ?_;simp only[j2,j2.loop,j6,z8,q8,h9,h10,h11] at H |-;have HH:=aa H;clear H hc hl;simp only[j2,j2.loop,j6,z8,q8,h9,h10,h11] at HE0;clear HH;obtain⟨vb,evb,evB,hvb,zvb⟩:=GOW.vars.form (by omega);obtain⟨y,EY0⟩:∃y,v.l[ka]=y:=⟨_,rfl⟩;have EYG:y.g=x.vars[ka]:=by
  have:∀(z:Pic) (h:ka < z.vars.length) (hz:z=aL false v L),z.vars[ka]=v.l[ka].g:=by intro z h hz;subst hz;simp[aL,roG]
  rw[this x hkax EPW.out,EY0]
 have GU:=(GOW.call YW).vars.gu evb (k:=ka) hkv;rw[EY0] at GU;obtain⟨⟨u0,u1,u2,u3,u4,u5,u6⟩,uz⟩:=GU;rw[EYG] at u0 u1 u2 u3 u4 u5 u6;have g1:=YS.1 1 _ rfl;rw[evb] at g1;have i2:=IS.1 2 _ rfl;rw[HKAV.out] at i2;have q0:(0:Int)<=(ka:Int):=by omega
 have q1:(ka:Int) < (v.l.length:Int):=by omega
 clear evb evB EY0 EYG IS YS OS YW BS ES GOW eka ex h9 h10 h11
 go_upto_region 48 with fail
 clear g1 i2 u0 u1 u2 u3 u4 u5 u6 uz;have hwi:Below wc.heap.size wc (wc.alloc (Cc #[Bb x.vars[ka].n,Bb x.vars[ka].sp.n,I Y x.vars[ka].sp.lo,I Y x.vars[ka].sp.hi,Bb x.vars[ka].t,Bb x.vars[ka].f,U y.ss x.vars[ka].s.length y.cap] 91)):=by go_grown
 have VI:Cells (wc.alloc (Cc #[Bb x.vars[ka].n,Bb x.vars[ka].sp.n,I Y x.vars[ka].sp.lo,I Y x.vars[ka].sp.hi,Bb x.vars[ka].t,Bb x.vars[ka].f,U y.ss x.vars[ka].s.length y.cap] 91)) wc.heap.size [Bb x.vars[ka].n,Bb x.vars[ka].sp.n,I Y x.vars[ka].sp.lo,I Y x.vars[ka].sp.hi,Bb x.vars[ka].t,Bb x.vars[ka].f,U y.ss x.vars[ka].s.length y.cap]:=Cells.new wc 91 [Bb x.vars[ka].n,Bb x.vars[ka].sp.n,I Y x.vars[ka].sp.lo,I Y x.vars[ka].sp.hi,Bb x.vars[ka].t,Bb x.vars[ka].f,U y.ss x.vars[ka].s.length y.cap];have zwi:Hid ((wc.alloc (Cc #[Bb x.vars[ka].n,Bb x.vars[ka].sp.n,I Y x.vars[ka].sp.lo,I Y x.vars[ka].sp.hi,Bb x.vars[ka].t,Bb x.vars[ka].f,U y.ss x.vars[ka].s.length y.cap] 91)).heap.size=wc.heap.size+1):=by show _=_;simp
 generalize wc.alloc (Cc #[Bb x.vars[ka].n,Bb x.vars[ka].sp.n,I Y x.vars[ka].sp.lo,I Y x.vars[ka].sp.hi,Bb x.vars[ka].t,Bb x.vars[ka].f,U y.ss x.vars[ka].s.length y.cap] 91)=wi at *;generalize eVB:wc.heap.size=vb2 at *;have c4:=VI.1 4 _ rfl;have c6:=VI.1 6 _ rfl;have d4:=VI.2.2 4;have d6:=VI.2.2 6
 go_upto_region 49 with fail
 clear c4 c6 d4 d6;obtain⟨wj,ewj⟩:∃q,q=bm wi vb2 4 [Bb false]:=⟨_,rfl⟩;have PJ:Put vb2 wi wj [Bb x.vars[ka].n,Bb x.vars[ka].sp.n,I Y x.vars[ka].sp.lo,I Y x.vars[ka].sp.hi,Bb false,Bb x.vars[ka].f,U y.ss x.vars[ka].s.length y.cap]:=bE VI 4 _ ewj;simp only[bm] at ewj;rw[<-ewj];clear ewj;obtain⟨wv,ewv⟩:∃q,q=bm wj vb2 6 [U nO 0 0]:=⟨_,rfl⟩;have PK:Put vb2 wj wv [Bb x.vars[ka].n,Bb x.vars[ka].sp.n,I Y x.vars[ka].sp.lo,I Y x.vars[ka].sp.hi,Bb false,Bb x.vars[ka].f,U nO 0 0]:=bE PJ.cells 6 _ ewv;simp only[bm] at ewv;rw[<-ewv];clear ewv;have PV:=PJ.trans PK;have c1:=PV.cells.1 1 _ rfl;have c2:=PV.cells.1 2 _ rfl;have c3:=PV.cells.1 3 _ rfl;go_wp2_with (go_at_call 113;fail);refine(HIS.out wv).mono ?_;rintro e wk ⟨rfl,hbk⟩;have CK:=PV.cells.call hbk;have hbw:Below vb2 wc wk:=(PV.low (lR _) hwi).trans (hbk.mono (by have:=PV.size;have:=zwi.out;omega))
 clear c1 c2 c3 PJ PK PV VI HIS
 go_upto_if 164 with fail
 rename_i K9 hK9;have HK9:=aa hK9;clear hK9;rcases Bool.eq_false_or_eq_true (x.vars[ka].sp.has 0) with hs0|hs0
 ·have hsn:=aa hs0
  rw[hs0];clear hs0;refine wp_cond_split rfl (λh=> ?_) (λh=> ?_);rotate_left
  ·cases h
  have k1:=CK.1 1 _ rfl;have fk1:=CK.2.2 1;have k2:=CK.1 2 _ rfl;have fk2:=CK.2.2 2;have k3:=CK.1 3 _ rfl;have fk3:=CK.2.2 3;go_wp2_with fail;obtain⟨ws,es'⟩:∃q,q=bm wk vb2 1 [Bb false,I Y 0,I Y 0]:=⟨_,rfl⟩;have PS:=bE CK 1 _ es';simp only[bm] at es';rw[<-es'];refine HK9.out _ _ (HE0.out ws _ _ _ _ _ _ _ (by rfl) (PS.low (lR _) hbw) ?_ _ rfl);have h:=PS.cells;have e:(bQ x.vars[ka])=⟨x.vars[ka].n,⟨false,0,0⟩,false,x.vars[ka].f,[]⟩:=by unfold bQ;rw[hsn.out];rfl
  rw[e];exact h
 ·have hsn:=aa hs0
  rw[hs0];clear hs0;refine wp_cond_split rfl (λh=> ?_) (λh=> ?_)
  skip
  ·cases h
  have k1:=CK.1 1 _ rfl;have fk1:=CK.2.2 1;have k2:=CK.1 2 _ rfl;have fk2:=CK.2.2 2;have k3:=CK.1 3 _ rfl;have fk3:=CK.2.2 3;go_wp2_with fail;obtain⟨ws,es'⟩:∃q,q=bm wk vb2 1 [Bb true,I Y 0,I Y 0]:=⟨_,rfl⟩;have PS:=bE CK 1 _ es';simp only[bm] at es';rw[<-es'];refine HK9.out _ _ (HE0.out ws _ _ _ _ _ _ _ (by rfl) (PS.low (lR _) hbw) ?_ _ rfl);have h:=PS.cells;have e:(bQ x.vars[ka])=⟨x.vars[ka].n,⟨true,0,0⟩,false,x.vars[ka].f,[]⟩:=by unfold bQ;rw[hsn.out];rfl
  rw[e];exact h
end
section
open Go.RowKit
theorem sk {c:List Ins}{g h:Gs}(h60:c.length<=60)(hg:aq c g=0)(hh:aq c h=0):cS aU g h=ae false g h/\cS aY g h=ae true g h:=by
 have a:=cI h60 hg;have b:=cI h60 hh;have e:cq [g,h]=fV g.s h.s:=iN g h a.1 b.1;unfold cS ae;rw[e];exact⟨rfl,rfl⟩
theorem mu {j k:Gs->Gs->Gs}{a b:List Gs}(h:∀g∈a,∀q∈b,j g q=k g q):aI j a b=aI k a b:=by
 unfold aI;refine x9 (by simp) λi h1 h2=> ?_;simp only[J0];exact h _ (gM _) _ (gM _)
theorem mr {V F:Int}{c:List Ins}{x y:Pic}{j k:Gs->Gs->Gs}(hx:aF V F c x=0)(hy:aF V F c y=0)(h:∀g q,aq c g=0->aq c q=0->j g q=k g q):aB j x y=aB k x y:=by
 unfold aB;split
 ·rfl
 split
 ·rfl
 rename_i hn hm;have kx:=cc hx (by simpa using hn);have ky:=cc hy (by simpa using hm);rw[mu (k:=k) λg hg q hq=>h g q (kx.gv g hg) (ky.gv q hq)];congr 1;refine x9 (by simp) λi h1 h2=> ?_;simp only[J0];simp only[List.length_zipWith] at h1;exact mu λg hg q hq=>h g q (kx.gf i (by omega) g hg) (ky.gf i (by omega) q hq)
theorem ir {V F:Int}{c:List Ins}{x y:Pic}(h0:ah V F c=0)(hx:aF V F c x=0)(hy:aF V F c y=0):aB (cS aU) x y=aB (ae false) x y/\aB (cS aY) x y=aB (ae true) x y:=
 ⟨mr hx hy λg q hg hq=>(sk (bw h0).2.2 hg hq).1,mr hx hy λg q hg hq=>(sk (bw h0).2.2 hg hq).2⟩
end
section
open Go.RowKit
attribute [local go_sem ↓] Go.wp_at_zero Go.wp_at_succ
theorem oT {S:Nat->Prop}(V F:Int)(s:oA)(c:List Ins)(cap sb pb pc q:Nat)(dv:Value)(L:List Pic)(z:Pic)(zs:oA)(zc:Nat)(gs:oA)(gc fh:Nat)(r:Pic)(w:World)(hfh:∀args wx,Sem.run pG (callFunc fh args) wx=.ok (.enter fh args) wx)
  (hst:Cells w sb [I Y V,I Y F,U s c.length cap,U (sO ⟨pb,0,nO⟩) L.length pc,dv])(hP:PRow S w pb L)(hS:∀b,S b->b≠pb)(hS2:∀b,w.heap.size<=b->S b)(hq:q < L.length)
  (hHow:∀wx vx vxc fx fxc,Below w.heap.size w wx->PicAt wx L[q] vx fx->(L[q].vars.length<=vxc/\vxc<=maxLen)->(L[q].flds.length<=fxc/\fxc<=maxLen)->Calls pG fh #[pv V F s c cap,xv L[q] vx vxc fx fxc,xv z zs zc gs gc] wx λe w'=>iF wx.heap.size w' e r 0/\Below wx.heap.size wx w'):
  Calls pG 165 #[Pp (sO ⟨sb,0,nO⟩),Ag #[I Y (q:Int),Bb z.none,U zs z.vars.length zc,U gs z.flds.length gc],.func (.func fh) #[] #[]] w λe w'=>(∃v,e=Rt v)/\PRow S w' pb (L.set q r)/\(∀b,b≠pb->b < w.heap.size->w'.heap[b]? =w.heap[b]?)/\w.heap.size<=w'.heap.size/\∀{B:Nat} {a:World},B<=pb->B<=w.heap.size->Below B a w->Below B a w':=by
 have B1:Below w.heap.size w (w.alloc (Cc #[I Y (q:Int),Bb z.none,U zs z.vars.length zc,U gs z.flds.length gc] 45)):=by go_grown
 have X1:Cells (w.alloc (Cc #[I Y (q:Int),Bb z.none,U zs z.vars.length zc,U gs z.flds.length gc] 45)) w.heap.size [I Y (q:Int),Bb z.none,U zs z.vars.length zc,U gs z.flds.length gc]:=Cells.new w _ [_,_,_,_];go_enter Tryz.func165,Tryz.ntmps165
 go_upto_region 1 with fail
 generalize w.alloc (Cc #[I Y (q:Int),Bb z.none,U zs z.vars.length zc,U gs z.flds.length gc] 45)=w1 at *;have PR1:=hP.call B1;have ST1:=hst.call B1;have hpb:pb < w.heap.size:=hP.choose_spec.1.2.1;obtain⟨vy,vyc,fy,fyc,⟨k0,k1,k2⟩,hPy,hvy,hfy,-,-⟩:=PR1.cell hq;have HOW:Hid (∀wx,Below w1.heap.size w1 wx->Calls pG fh #[pv V F s c cap,xv L[q] vy vyc fy fyc,xv z zs zc gs gc] wx λe w'=>iF wx.heap.size w' e r 0/\Below wx.heap.size wx w'):=λwx hb=>hHow wx vy vyc fy fyc (B1.trans (hb.mono B1.size)) (hPy.call hb).at hvy hfy;clear hHow hPy hvy hfy;obtain⟨y,ey⟩:∃y,y=L[q]:=⟨_,rfl⟩;rw[<-ey] at HOW k0 k1 k2;have hp1:pb < w1.heap.size:=lL hpb B1.size;have HKZ:Hid (∀wx,Below w1.heap.size w1 wx->(wx.cell? ⟨sb,0,nO⟩=sO (I Y V)/\wx.cell? ⟨sb,1,nO⟩=sO (I Y F)/\wx.cell? ⟨sb,2,nO⟩=sO (U s c.length cap)/\wx.cell? ⟨sb,3,nO⟩=sO (U (sO ⟨pb,0,nO⟩) L.length pc))/\(wx.cell? ⟨w.heap.size,0,nO⟩=sO (I Y (q:Int))/\wx.cell? ⟨w.heap.size,1,nO⟩=sO (Bb z.none)/\wx.cell? ⟨w.heap.size,2,nO⟩=sO (U zs z.vars.length zc)/\wx.cell? ⟨w.heap.size,3,nO⟩=sO (U gs z.flds.length gc))/\(wx.cell? ⟨pb,q * 3,nO⟩=sO (Bb y.none)/\wx.cell? ⟨pb,q * 3+1,nO⟩=sO (U vy y.vars.length vyc)/\wx.cell? ⟨pb,q * 3+2,nO⟩=sO (U fy y.flds.length fyc))):=λwx hb=>by
  have p:=ST1.call hb;have x:=X1.call hb;exact⟨⟨p.1 0 _ rfl,p.1 1 _ rfl,p.1 2 _ rfl,p.1 3 _ rfl⟩,⟨x.1 0 _ rfl,x.1 1 _ rfl,x.1 2 _ rfl,x.1 3 _ rfl⟩,by rw[hb.cell hp1];exact k0,by rw[hb.cell hp1];exact k1,by rw[hb.cell hp1];exact k2⟩
 clear ey;have B4:Below w1.heap.size w1 w1.drew:=(bR _ _).drew;have m0:(0:Int)<=(q:Int):=by omega
 have m1:(q:Int) < (L.length:Int):=by omega
 refine aw (S:=(λwx=>(wx.cell? ⟨sb,0,nO⟩=sO (I Y V)/\wx.cell? ⟨sb,1,nO⟩=sO (I Y F)/\wx.cell? ⟨sb,2,nO⟩=sO (U s c.length cap)/\wx.cell? ⟨sb,3,nO⟩=sO (U (sO ⟨pb,0,nO⟩) L.length pc))/\(wx.cell? ⟨w.heap.size,0,nO⟩=sO (I Y (q:Int))/\wx.cell? ⟨w.heap.size,1,nO⟩=sO (Bb z.none)/\wx.cell? ⟨w.heap.size,2,nO⟩=sO (U zs z.vars.length zc)/\wx.cell? ⟨w.heap.size,3,nO⟩=sO (U gs z.flds.length gc))/\(wx.cell? ⟨pb,q * 3,nO⟩=sO (Bb y.none)/\wx.cell? ⟨pb,q * 3+1,nO⟩=sO (U vy y.vars.length vyc)/\wx.cell? ⟨pb,q * 3+2,nO⟩=sO (U fy y.flds.length fyc)))) [26] (by kernel_rfl) (HKZ.out _ B4) (λhHeld=> ?_);generalize w1.drew=w4 at *;refine vZ 0 ?_ ?_;refine vZ 1 ?_ ?_;refine vZ 2 ?_ ?_;refine vZ 3 ?_ ?_;refine vZ 4 ?_ ?_;refine vZ 5 ?_ ?_;refine vZ 6 ?_ ?_;refine vZ 7 ?_ ?_;refine vZ 8 ?_ ?_;refine vZ 9 ?_ ?_;refine vZ 10 ?_ ?_;refine vZ 11 ?_ ?_;refine vZ 12 ?_ ?_;refine vZ 13 ?_ ?_;refine vZ 14 ?_ ?_;refine vZ 15 ?_ ?_;refine vZ 16 ?_ ?_;refine vZ 17 ?_ ?_;refine vZ 18 ?_ ?_;refine vZ 19 ?_ ?_;refine vZ 20 ?_ ?_;refine am (i:=21) rfl (by kernel_rfl) (λK hK=> ?_);go_simp;refine(HOW.out w4 B4).mono ?_;rintro e5 w5 ⟨⟨rs,rc,rf,rg,rfl,RP,RV,RF⟩,hb5⟩;have B5:=B4.trans (hb5.mono B4.size);go_wp2_with fail;refine hK.out _ _ (HKZ.out _ B5) (λhHeld=> ?_);clear hK K;refine sm ?_;refine vZ 22 ?_ ?_;refine vZ 23 ?_ ?_;refine pZ 24 ?_ ?_;refine sm ?_;refine vZ 25 ?_ ?_;refine bo (i:=26) rfl (by kernel_rfl) (by kernel_rfl) (λK hK=> ?_);have PR5:=(PR1.call B5);obtain⟨_,_,_,_,_,_,_,_,_,fz⟩:=PR5.cell hq;obtain⟨-,-,c0,c1,c2⟩:=hHeld;have f0:=fz (q * 3);have f1:=fz (q * 3+1);have f2:=fz (q * 3+2);clear fz;go_simp;obtain⟨wq,ewq⟩:∃q',q'=bm w5 pb (q * 3) [Bb r.none,U rs r.vars.length rc,U rf r.flds.length rg]:=⟨_,rfl⟩;have PT:=aa (PR5.put hS hq (RP.mono λb hb _=>hS2 b (lT (lT B1.size B4.size) hb)) RV RF ewq);simp only[bm] at ewq;rw[<-ewq];refine hK.out _ _ ?_;clear hK K c0 c1 c2 f0 f1 f2 ewq;refine sm ?_;refine ap (by kernel_rfl) ?_ _;clear HOW HKZ hHeld;obtain⟨T1,T2,T3,T4⟩:=PT.out;have hB:Below w.heap.size w w5:=B1.trans (B5.mono B1.size)
 first|go_end0|refine bodyPost_ret (results_none rfl _ _ _) rfl ?_
 exact⟨⟨_,rfl⟩,T1,λb hb hlt=>(T2 b hb).trans (hB.block b hlt),lT hB.size T3,λ{B} {a} h1 h2 h3=>T4 h1 (h3.trans (hB.mono h2))⟩
def gi (S:Nat->Prop)(w w':World)(pb db:Nat)(L:List Pic)(D:List Int):Prop:=PRow S w' pb L/\DRow w' db D/\(∀b,b≠pb->b≠db->b < w.heap.size->w'.heap[b]? =w.heap[b]?)/\w.heap.size<=w'.heap.size/\∀{B:Nat} {a:World},B<=pb->B<=db->B<=w.heap.size->Below B a w->Below B a w'
theorem EO {S:Nat->Prop}(V F:Int)(s:oA)(c:List Ins)(cap sb pb pc db dc q:Nat)(n:Int)(L:List Pic)(D:List Int)(z:Pic)(zs:oA)(zc:Nat)(gs:oA)(gc:Nat)(r:Pic)(w:World)
  (hst:Cells w sb [I Y V,I Y F,U s c.length cap,U (sO ⟨pb,0,nO⟩) L.length pc,U (sO ⟨db,0,nO⟩) D.length dc])(hP:PRow S w pb L)(hD:DRow w db D)(hpd:pb≠db)(hsp:sb≠pb)(hS:∀b,S b->b≠pb/\b≠db)(hS2:∀b,w.heap.size<=b->S b)(hq:q < L.length)(hqD:q < D.length)(hDm:D.length<=maxLen)
  (hHow:∀wx vx vxc fx fxc,Below w.heap.size w wx->PicAt wx L[q] vx fx->(L[q].vars.length<=vxc/\vxc<=maxLen)->(L[q].flds.length<=fxc/\fxc<=maxLen)->Calls pG 32 #[pv V F s c cap,xv L[q] vx vxc fx fxc,xv z zs zc gs gc] wx λe w'=>iF wx.heap.size w' e r 0/\Below wx.heap.size wx w'):
  Calls pG 100 #[Pp (sO ⟨sb,0,nO⟩),I Y n,Ag #[I Y (q:Int),Bb z.none,U zs z.vars.length zc,U gs z.flds.length gc]] w λe w'=>(∃v,e=Rt v)/\gi S w w' pb db (L.set q r) (D.set q (n)):=by
 have B1:Below w.heap.size w (w.alloc (Cc #[I Y (q:Int),Bb z.none,U zs z.vars.length zc,U gs z.flds.length gc] 45)):=by go_grown
 have X1:Cells (w.alloc (Cc #[I Y (q:Int),Bb z.none,U zs z.vars.length zc,U gs z.flds.length gc] 45)) w.heap.size [I Y (q:Int),Bb z.none,U zs z.vars.length zc,U gs z.flds.length gc]:=Cells.new w _ [_,_,_,_];have sz1:(w.alloc (Cc #[I Y (q:Int),Bb z.none,U zs z.vars.length zc,U gs z.flds.length gc] 45)).heap.size=w.heap.size+1:=zA _ _;have ST1:=hst.call B1;have PR1:=hP.call B1;have DR1:=hD.call B1;have hpb:pb < w.heap.size:=hP.choose_spec.1.2.1;have hdb:db < w.heap.size:=hD.choose_spec.1.2.1;have HPU:Hid (Calls pG 165 #[Pp (sO ⟨sb,0,nO⟩),Ag #[I Y (q:Int),Bb z.none,U zs z.vars.length zc,U gs z.flds.length gc],.func (.func 32) #[] #[]] (w.alloc (Cc #[I Y (q:Int),Bb z.none,U zs z.vars.length zc,U gs z.flds.length gc] 45)) λe w'=>(∃v,e=Rt v)/\PRow S w' pb (L.set q r)/\(∀b,b≠pb->b < (w.alloc (Cc #[I Y (q:Int),Bb z.none,U zs z.vars.length zc,U gs z.flds.length gc] 45)).heap.size->w'.heap[b]? =(w.alloc (Cc #[I Y (q:Int),Bb z.none,U zs z.vars.length zc,U gs z.flds.length gc] 45)).heap[b]?)/\(w.alloc (Cc #[I Y (q:Int),Bb z.none,U zs z.vars.length zc,U gs z.flds.length gc] 45)).heap.size<=w'.heap.size/\∀{B:Nat} {a:World},B<=pb->B<=(w.alloc (Cc #[I Y (q:Int),Bb z.none,U zs z.vars.length zc,U gs z.flds.length gc] 45)).heap.size->Below B a (w.alloc (Cc #[I Y (q:Int),Bb z.none,U zs z.vars.length zc,U gs z.flds.length gc] 45))->Below B a w'):=oT V F s c cap sb pb pc q _ L z zs zc gs gc 32 r _ (enters_of Tryz.func32 (by kernel_rfl) rfl) ST1 PR1 (λb hb=>(hS b hb).1) (λb hb=>hS2 b (by omega)) hq (λwx vx vxc fx fxc hb k1 k2 k3=>hHow wx vx vxc fx fxc (B1.trans (hb.mono B1.size)) k1 k2 k3);clear hHow hP hD hst;unfold gi;go_enter Tryz.func100,Tryz.ntmps100;go_wp2_with fail;generalize w.alloc (Cc #[I Y (q:Int),Bb z.none,U zs z.vars.length zc,U gs z.flds.length gc] 45)=w1 at *;refine HPU.out.mono ?_;clear HPU;rintro e w2 ⟨⟨ve,rfl⟩,PR2,FR2,SZ2,LO2⟩;have DR3:DRow w2 db D:=DR1.far (FR2 db (Ne.symm hpd) DR1.choose_spec.1.2.1) SZ2;have X3:=X1.same (FR2 w.heap.size (by omega) X1.2.1) SZ2;have ST3:=ST1.same (FR2 sb hsp ST1.2.1) SZ2;have HKZ:Hid (∀wx,Below w2.heap.size w2 wx->wx.cell? ⟨sb,4,nO⟩=sO (U (sO ⟨db,0,nO⟩) D.length dc)/\wx.cell? ⟨w.heap.size,0,nO⟩=sO (I Y (q:Int))/\wx.cell? ⟨db,q,nO⟩=sO (I Y D[q])):=λwx hb=>⟨(ST3.call hb).1 4 _ rfl,(X3.call hb).1 0 _ rfl,(DR3.call hb).get hqD⟩;have B4:Below w2.heap.size w2 w2.drew:=(bR _ _).drew;have m0:(0:Int)<=(q:Int):=by omega
 have m1:(q:Int) < (D.length:Int):=by omega
 clear ST1 X1 DR1 X3 ST3
 go_upto_region 2 with fail
 refine aw (S:=(λwx=>wx.cell? ⟨sb,4,nO⟩=sO (U (sO ⟨db,0,nO⟩) D.length dc)/\wx.cell? ⟨w.heap.size,0,nO⟩=sO (I Y (q:Int))/\wx.cell? ⟨db,q,nO⟩=sO (I Y D[q]))) [8] (by kernel_rfl) (HKZ.out _ B4) (λhHeld=> ?_);generalize w2.drew=w4 at *;refine vZ 0 ?_ ?_;refine vZ 1 ?_ ?_;refine vZ 2 ?_ ?_;refine vZ 3 ?_ ?_;refine vZ 4 ?_ ?_;refine vZ 5 ?_ ?_;refine vZ 6 ?_ ?_;refine vZ 7 ?_ ?_;refine bo (i:=8) rfl (by kernel_rfl) (by kernel_rfl) (λK hK=> ?_);have DR5:=DR3.call B4;obtain⟨_,DC,_,_⟩:=DR5;obtain⟨-,-,c0⟩:=hHeld;have f0:=DC.2.2 q;clear DC;go_simp;obtain⟨wq,ewq⟩:∃q',q'=bm w4 db q [I Y (n)]:=⟨_,rfl⟩;have PT:=aa ((DR3.call B4).put ewq hqD);simp only[bm] at ewq;rw[<-ewq];refine hK.out _ _ ?_;clear hK K c0 f0 ewq;refine sm ?_;refine ap (by kernel_rfl) ?_ _;clear HKZ;have z24:=B4.size;obtain⟨T1,T2,T3,T4⟩:=PT.out;have PR5:=(PR2.call B4).far (T2 pb hpd) (λb hb _=>T2 b (hS b hb).2) T3
 first|go_end0|refine bodyPost_ret (results_none rfl _ _ _) rfl ?_
 exact⟨⟨_,rfl⟩,PR5,T1,λb h1 h2 hlt=>((T2 b h2).trans (B4.block b (by omega))).trans ((FR2 b h1 (by omega)).trans (B1.block b hlt)),by omega,λ{B} {a} h1 h2 h3 h4=>T4 h2 ((LO2 h1 (by omega) (h4.trans (B1.mono h3))).trans (B4.mono (by omega)))⟩
theorem sY {p:Prop}(h:p:=by
 clear hHow hP hD hst;unfold gi;go_enter Tryz.func101,Tryz.ntmps101;go_wp2_with fail;generalize w.alloc (.cells #[.int .i64 (q:Int),.bool z.none,.slice zs z.vars.length zc,.slice gs z.flds.length gc] 45)=w1 at *;refine HPU.out.mono ?_;clear HPU;rintro e w2 ⟨⟨ve,rfl⟩,PR2,FR2,SZ2,LO2⟩;have DR3:DRow w2 db D:=DR1.far (FR2 db (Ne.symm hpd) DR1.choose_spec.1.2.1) SZ2;have X3:=X1.same (FR2 w.heap.size (by omega) X1.2.1) SZ2;have ST3:=ST1.same (FR2 sb hsp ST1.2.1) SZ2;have HKZ:Hid (∀wx,Below w2.heap.size w2 wx->wx.cell? ⟨sb,4,none⟩=some (.slice (some ⟨db,0,none⟩) D.length dc)/\wx.cell? ⟨w.heap.size,0,none⟩=some (.int .i64 (q:Int))/\wx.cell? ⟨db,q,none⟩=some (.int .i64 D[q])):=λwx hb=>⟨(ST3.call hb).1 4 _ rfl,(X3.call hb).1 0 _ rfl,(DR3.call hb).get hqD⟩;have B4:Below w2.heap.size w2 w2.drew:=(Below.refl _ _).drew;have m0:(0:Int)<=(q:Int):=by omega
 have m1:(q:Int) < (D.length:Int):=by omega
 clear ST1 X1 DR1 X3 ST3
 go_upto_region 4 with fail
 refine aw (S:=(λwx=>wx.cell? ⟨sb,4,none⟩=some (.slice (some ⟨db,0,none⟩) D.length dc)/\wx.cell? ⟨w.heap.size,0,none⟩=some (.int .i64 (q:Int))/\wx.cell? ⟨db,q,none⟩=some (.int .i64 D[q]))) [9] (by kernel_rfl) (HKZ.out _ B4) (λhHeld=> ?_);generalize w2.drew=w4 at *;refine vZ 0 ?_ ?_;refine vZ 1 ?_ ?_;refine vZ 2 ?_ ?_;refine vZ 3 ?_ ?_;refine vZ 4 ?_ ?_;refine vZ 5 ?_ ?_;refine vZ 6 ?_ ?_;refine vZ 7 ?_ ?_;refine vZ 8 ?_ ?_;refine bo (i:=9) rfl (by kernel_rfl) (by kernel_rfl) (λK hK=> ?_);have DR5:=DR3.call B4;obtain⟨_,DC,_,_⟩:=DR5;obtain⟨-,-,c0⟩:=hHeld;have f0:=DC.2.2 q;clear DC;go_simp;obtain⟨wq,ewq⟩:∃q',q'=bm w4 db q [.int .i64 (n+1)]:=⟨_,rfl⟩;have PT:=aa ((DR3.call B4).put ewq hqD);simp only[bm] at ewq;rw[<-ewq];refine hK.out _ _ ?_;clear hK K c0 f0 ewq;refine sm ?_;refine ap (by kernel_rfl) ?_ _;clear HKZ;have z24:=B4.size;obtain⟨T1,T2,T3,T4⟩:=PT.out;have PR5:=(PR2.call B4).far (T2 pb hpd) (λb hb _=>T2 b (hS b hb).2) T3
 first|go_end0|refine bodyPost_ret (results_none rfl _ _ _) rfl ?_
 exact⟨⟨_,rfl⟩,PR5,T1,λb h1 h2 hlt=>((T2 b h2).trans (B4.block b (by omega))).trans ((FR2 b h1 (by omega)).trans (B1.block b hlt)),by omega,λ{B} {a} h1 h2 h3 h4=>T4 h2 ((LO2 h1 (by omega) (h4.trans (B1.mono h3))).trans (B4.mono (by omega)))⟩):p:=h
theorem yt {S:Nat->Prop}(V F:Int)(s:oA)(c:List Ins)(cap sb pb pc db dc q:Nat)(n:Int)(L:List Pic)(D:List Int)(z:Pic)(zs:oA)(zc:Nat)(gs:oA)(gc:Nat)(r:Pic)(w:World)
  (hst:Cells w sb [I Y V,I Y F,U s c.length cap,U (sO ⟨pb,0,nO⟩) L.length pc,U (sO ⟨db,0,nO⟩) D.length dc])(hP:PRow S w pb L)(hD:DRow w db D)(hpd:pb≠db)(hsp:sb≠pb)(hS:∀b,S b->b≠pb/\b≠db)(hS2:∀b,w.heap.size<=b->S b)(hq:q < L.length)(hqD:q < D.length)(hDm:D.length<=maxLen)(hn:n < 4)(hnw:IntKind.i64.wrap (n+1)=n+1)
  (hHow:∀wx vx vxc fx fxc,Below w.heap.size w wx->PicAt wx L[q] vx fx->(L[q].vars.length<=vxc/\vxc<=maxLen)->(L[q].flds.length<=fxc/\fxc<=maxLen)->Calls pG 32 #[pv V F s c cap,xv L[q] vx vxc fx fxc,xv z zs zc gs gc] wx λe w'=>iF wx.heap.size w' e r 0/\Below wx.heap.size wx w'):
  Calls pG 101 #[Pp (sO ⟨sb,0,nO⟩),I Y n,Ag #[I Y (q:Int),Bb z.none,U zs z.vars.length zc,U gs z.flds.length gc]] w λe w'=>(∃v,e=Rt v)/\gi S w w' pb db (L.set q r) (D.set q (n+1)):=by
 have B1:Below w.heap.size w (w.alloc (Cc #[I Y (q:Int),Bb z.none,U zs z.vars.length zc,U gs z.flds.length gc] 45)):=by go_grown
 have X1:Cells (w.alloc (Cc #[I Y (q:Int),Bb z.none,U zs z.vars.length zc,U gs z.flds.length gc] 45)) w.heap.size [I Y (q:Int),Bb z.none,U zs z.vars.length zc,U gs z.flds.length gc]:=Cells.new w _ [_,_,_,_];have sz1:(w.alloc (Cc #[I Y (q:Int),Bb z.none,U zs z.vars.length zc,U gs z.flds.length gc] 45)).heap.size=w.heap.size+1:=zA _ _;have ST1:=hst.call B1;have PR1:=hP.call B1;have DR1:=hD.call B1;have hpb:pb < w.heap.size:=hP.choose_spec.1.2.1;have hdb:db < w.heap.size:=hD.choose_spec.1.2.1;have HPU:Hid (Calls pG 165 #[Pp (sO ⟨sb,0,nO⟩),Ag #[I Y (q:Int),Bb z.none,U zs z.vars.length zc,U gs z.flds.length gc],.func (.func 32) #[] #[]] (w.alloc (Cc #[I Y (q:Int),Bb z.none,U zs z.vars.length zc,U gs z.flds.length gc] 45)) λe w'=>(∃v,e=Rt v)/\PRow S w' pb (L.set q r)/\(∀b,b≠pb->b < (w.alloc (Cc #[I Y (q:Int),Bb z.none,U zs z.vars.length zc,U gs z.flds.length gc] 45)).heap.size->w'.heap[b]? =(w.alloc (Cc #[I Y (q:Int),Bb z.none,U zs z.vars.length zc,U gs z.flds.length gc] 45)).heap[b]?)/\(w.alloc (Cc #[I Y (q:Int),Bb z.none,U zs z.vars.length zc,U gs z.flds.length gc] 45)).heap.size<=w'.heap.size/\∀{B:Nat} {a:World},B<=pb->B<=(w.alloc (Cc #[I Y (q:Int),Bb z.none,U zs z.vars.length zc,U gs z.flds.length gc] 45)).heap.size->Below B a (w.alloc (Cc #[I Y (q:Int),Bb z.none,U zs z.vars.length zc,U gs z.flds.length gc] 45))->Below B a w'):=oT V F s c cap sb pb pc q _ L z zs zc gs gc 32 r _ (enters_of Tryz.func32 (by kernel_rfl) rfl) ST1 PR1 (λb hb=>(hS b hb).1) (λb hb=>hS2 b (by omega)) hq (λwx vx vxc fx fxc hb k1 k2 k3=>hHow wx vx vxc fx fxc (B1.trans (hb.mono B1.size)) k1 k2 k3);exact sY
theorem Ae {S:Nat->Prop}(V F:Int)(s:oA)(c:List Ins)(cap sb pb pc db dc q:Nat)(n:Int)(L:List Pic)(D:List Int)(z:Pic)(zs:oA)(zc:Nat)(gs:oA)(gc:Nat)(r:Pic)(w:World)
  (hst:Cells w sb [I Y V,I Y F,U s c.length cap,U (sO ⟨pb,0,nO⟩) L.length pc,U (sO ⟨db,0,nO⟩) D.length dc])(hP:PRow S w pb L)(hD:DRow w db D)(hpd:pb≠db)(hsp:sb≠pb)(hS:∀b,S b->b≠pb/\b≠db)(hS2:∀b,w.heap.size<=b->S b)(hq:q < L.length)(hqD:q < D.length)(hDm:D.length<=maxLen)(hn:¬n < 4)(hnw:IntKind.i64.wrap (n+1)=n+1)
  (hHow:∀wx vx vxc fx fxc,Below w.heap.size w wx->PicAt wx L[q] vx fx->(L[q].vars.length<=vxc/\vxc<=maxLen)->(L[q].flds.length<=fxc/\fxc<=maxLen)->Calls pG 33 #[pv V F s c cap,xv L[q] vx vxc fx fxc,xv z zs zc gs gc] wx λe w'=>iF wx.heap.size w' e r 0/\Below wx.heap.size wx w'):
  Calls pG 101 #[Pp (sO ⟨sb,0,nO⟩),I Y n,Ag #[I Y (q:Int),Bb z.none,U zs z.vars.length zc,U gs z.flds.length gc]] w λe w'=>(∃v,e=Rt v)/\gi S w w' pb db (L.set q r) (D.set q (n+1)):=by
 have B1:Below w.heap.size w (w.alloc (Cc #[I Y (q:Int),Bb z.none,U zs z.vars.length zc,U gs z.flds.length gc] 45)):=by go_grown
 have X1:Cells (w.alloc (Cc #[I Y (q:Int),Bb z.none,U zs z.vars.length zc,U gs z.flds.length gc] 45)) w.heap.size [I Y (q:Int),Bb z.none,U zs z.vars.length zc,U gs z.flds.length gc]:=Cells.new w _ [_,_,_,_];have sz1:(w.alloc (Cc #[I Y (q:Int),Bb z.none,U zs z.vars.length zc,U gs z.flds.length gc] 45)).heap.size=w.heap.size+1:=zA _ _;have ST1:=hst.call B1;have PR1:=hP.call B1;have DR1:=hD.call B1;have hpb:pb < w.heap.size:=hP.choose_spec.1.2.1;have hdb:db < w.heap.size:=hD.choose_spec.1.2.1;have HPU:Hid (Calls pG 165 #[Pp (sO ⟨sb,0,nO⟩),Ag #[I Y (q:Int),Bb z.none,U zs z.vars.length zc,U gs z.flds.length gc],.func (.func 33) #[] #[]] (w.alloc (Cc #[I Y (q:Int),Bb z.none,U zs z.vars.length zc,U gs z.flds.length gc] 45)) λe w'=>(∃v,e=Rt v)/\PRow S w' pb (L.set q r)/\(∀b,b≠pb->b < (w.alloc (Cc #[I Y (q:Int),Bb z.none,U zs z.vars.length zc,U gs z.flds.length gc] 45)).heap.size->w'.heap[b]? =(w.alloc (Cc #[I Y (q:Int),Bb z.none,U zs z.vars.length zc,U gs z.flds.length gc] 45)).heap[b]?)/\(w.alloc (Cc #[I Y (q:Int),Bb z.none,U zs z.vars.length zc,U gs z.flds.length gc] 45)).heap.size<=w'.heap.size/\∀{B:Nat} {a:World},B<=pb->B<=(w.alloc (Cc #[I Y (q:Int),Bb z.none,U zs z.vars.length zc,U gs z.flds.length gc] 45)).heap.size->Below B a (w.alloc (Cc #[I Y (q:Int),Bb z.none,U zs z.vars.length zc,U gs z.flds.length gc] 45))->Below B a w'):=oT V F s c cap sb pb pc q _ L z zs zc gs gc 33 r _ (enters_of Tryz.func33 (by kernel_rfl) rfl) ST1 PR1 (λb hb=>(hS b hb).1) (λb hb=>hS2 b (by omega)) hq (λwx vx vxc fx fxc hb k1 k2 k3=>hHow wx vx vxc fx fxc (B1.trans (hb.mono B1.size)) k1 k2 k3);exact sY
theorem AY (V F:Int)(s:oA)(c:List Ins)(cap:Nat)(w:World)(hcd:CodeAt w s c)(h:ah V F c≠0):
  Calls pG 38 #[pv V F s c cap] w λe w'=>K5 w' e dn (ah V F c)/\Below w.heap.size w w':=by
 have B0:Below w.heap.size w ((w.alloc (Cc #[I Y V,I Y F,U s c.length cap] 24)).alloc (Cc #[Bb false,U nO 0 0,U nO 0 0] 28)):=by go_grown
 have P0:=(PrAt.new w V F s c cap).call (w':=((w.alloc (Cc #[I Y V,I Y F,U s c.length cap] 24)).alloc (Cc #[Bb false,U nO 0 0,U nO 0 0] 28))) (by go_grown);have Z0:=X3.new (w.alloc (Cc #[I Y V,I Y F,U s c.length cap] 24)) 28 (Bb false) (U nO 0 0) (U nO 0 0);rw[zA] at Z0;have HC:=aa (eC V F s cap c ((w.alloc (Cc #[I Y V,I Y F,U s c.length cap] 24)).alloc (Cc #[Bb false,U nO 0 0,U nO 0 0] 28)) (hcd.below B0 (lR _)));have d1:(ah V F c !=0)=true:=by simpa using h
 generalize ah V F c=ce at *;clear h hcd P0;go_enter Tryz.func38,Tryz.ntmps38;go_wp2_with (go_at_call 76;fail);refine HC.out.mono ?_;rintro e w1 ⟨rfl,hb1⟩;have Z1:=Z0.call hb1;have B1:=B0.trans (hb1.mono B0.size);clear hb1 B0 Z0 HC;obtain⟨⟨z0,z1,z2⟩,zz,zf⟩:=id Z1;have f0:=zf 0;have f1:=zf 1;have f2:=zf 2;clear zf;go_wp2;refine bodyPost_ret (v:=Tu #[Ag #[Bb false,U nO 0 0,U nO 0 0],I Y ce]) (by simp[results,Tryz.results38,go_sem,z0,z1,z2]) rfl ⟨⟨nO,0,nO,0,rfl,⟨λi hi=>absurd hi (by simp[dn]),λi hi=>absurd hi (by simp[dn])⟩,⟨j4 _,j4 _⟩,j4 _,j4 _⟩,?_⟩;exact((B1.setCell (by simp only;omega) _).setCell (by simp only;omega) _).setCell (by simp only;omega) _
theorem Dn (v f:Nat)(s:oA)(c:List Ins)(cap:Nat)(w:World)(hcd:CodeAt w s c)(h:ah (v:Int) (f:Int) c=0):
  Calls pG 38 #[pv (v:Int) (f:Int) s c cap] w λe w'=>iF w.heap.size w' e (bt (v:Int) (f:Int) c) 0/\Below w.heap.size w w':=by
 have efp:bt (v:Int) (f:Int) c=⟨false,j5 v cE,j5 c.length (j5 f noneG)⟩:=by simp[bt]
 rw[efp];clear efp;obtain⟨⟨_,hv8⟩,⟨_,hf3⟩,h60⟩:=bw h;obtain⟨tk,hk,hx0,hx1,hx2⟩:=info_parts Tryz.info_row;have B0:Below w.heap.size w ((w.alloc (Cc #[I Y (v:Int),I Y (f:Int),U s c.length cap] 24)).alloc (Cc #[Bb false,U nO 0 0,U nO 0 0] 28)):=by go_grown
 have P0:=(PrAt.new w (v:Int) (f:Int) s c cap).call (w':=((w.alloc (Cc #[I Y (v:Int),I Y (f:Int),U s c.length cap] 24)).alloc (Cc #[Bb false,U nO 0 0,U nO 0 0] 28))) (by go_grown);have Z0:=X3.new (w.alloc (Cc #[I Y (v:Int),I Y (f:Int),U s c.length cap] 24)) 28 (Bb false) (U nO 0 0) (U nO 0 0);rw[zA] at Z0;have HC:=aa (eC (v:Int) (f:Int) s cap c ((w.alloc (Cc #[I Y (v:Int),I Y (f:Int),U s c.length cap] 24)).alloc (Cc #[Bb false,U nO 0 0,U nO 0 0] 28)) (hcd.below B0 (lR _)));rw[h] at HC;have HNO:=aa m8;have HRF:Hid (∀wx,Calls pG 78 #[Ag #[Bb false,Bb true,I Y 0,I Y 0,Bb false,Bb false,U nO 0 0],I Y (f:Int)] wx λe w'=>(∃rs,e=Rt (U rs f f)/\GsIn (λb=>wx.heap.size<=b) w' rs (j5 f noneG))/\Below wx.heap.size wx w'):=λwx=>vR noneG rfl f (by omega) wx;have HRV:Hid (∀wx,Calls pG 78 #[Ag #[Bb true,Bb true,I Y 0,I Y 0,Bb false,Bb false,U nO 0 0],I Y (v:Int)] wx λe w'=>(∃rs,e=Rt (U rs v v)/\GsIn (λb=>wx.heap.size<=b) w' rs (j5 v cE))/\Below wx.heap.size wx w'):=λwx=>vR cE rfl v (by omega) wx;clear h hcd;go_enter Tryz.func38,Tryz.ntmps38;go_wp2_with (go_at_call 76;fail);refine HC.out.mono ?_;rintro e w1 ⟨rfl,hb1⟩;have Z1:=Z0.call hb1;have P1:=P0.call hb1;have B1:=B0.trans (hb1.mono B0.size);have z1:w.heap.size+1+1<=w1.heap.size:=by have:=hb1.size;simpa using this
 clear hb1 B0 Z0 P0 HC;go_wp2_with (go_at_call 77;fail);refine(HNO.out _).mono ?_;rintro e w2 ⟨rfl,hb2⟩;have hb3:Below w2.heap.size w2 (w2.alloc (Cc #[Bb true,Bb true,I Y 0,I Y 0,Bb false,Bb false,U nO 0 0] 91)):=by go_grown
 have hb23:=hb2.trans (hb3.mono hb2.size);have Z3:=Z1.call hb23;have P3:=P1.call hb23;have B3:=B1.trans (hb23.mono B1.size);have z3:w.heap.size+1+1<=(w2.alloc (Cc #[Bb true,Bb true,I Y 0,I Y 0,Bb false,Bb false,U nO 0 0] 91)).heap.size:=lT z1 hb23.size;clear hb2 hb3 hb23 Z1 P1 B1 z1;obtain⟨⟨p0,p1,p2⟩,pz⟩:=id P3;go_wp2_with (go_at_call 78;fail);refine(HRV.out _).mono ?_;rintro e w4 ⟨⟨vs,rfl,GV0⟩,hb4⟩;clear p0 p1 p2 pz HRV;have hbx:Below w4.heap.size w4 (w4.alloc (Cc #[Bb false,U vs v v,U nO 0 0] 28)):=by go_grown
 have hb45:=hb4.trans (hbx.mono hb4.size);have Z5:=Z3.call hb45;have P5:=P3.call hb45;have B5:=B3.trans (hb45.mono B3.size);have U5:=X3.new w4 28 (Bb false) (U vs v v) (U nO 0 0);have z5:w.heap.size+1+1<=w4.heap.size:=lT z3 hb4.size;have GV5:GsIn (λb=>w.heap.size+1+1<=b/\b < w4.heap.size+1/\b≠w4.heap.size) (w4.alloc (Cc #[Bb false,U vs v v,U nO 0 0] 28)) vs (j5 v cE):=(GV0.mono (S':=λb=>w.heap.size+1+1<=b/\b < w4.heap.size+1/\b≠w4.heap.size) λb h1 h2=>⟨lT z3 h1,by omega,by omega⟩).call hbx;have e5:w4.heap.size+1<=(w4.alloc (Cc #[Bb false,U vs v v,U nO 0 0] 28)).heap.size:=by simp
 have l5:w4.heap.size < w4.heap.size+1:=by omega
 clear hb4 hbx hb45 Z3 P3 B3 z3 GV0;obtain⟨⟨p0,p1,p2⟩,pz⟩:=id P5;go_wp2;clear p0 p1 p2 pz;generalize w4.alloc (Cc #[Bb false,U vs v v,U nO 0 0] 28)=w5 at *;generalize w4.heap.size+1=N at *;generalize w4.heap.size=zb at *;go_loopw [23] (λi wr=>∃(k:Nat) (fs:oA) (fc:Nat) (L:List Rw),k<=c.length/\i=I Y k/\PrAt wr w.heap.size (v:Int) (f:Int) s c cap/\X3 wr (w.heap.size+1) (Bb false) (U nO 0 0) (U nO 0 0)/\X3 wr zb (Bb false) (U vs v v) (U fs L.length fc)/\FRow wr N (U fs L.length fc) L/\Hid (L.map Rw.l=j5 k (j5 f noneG))/\GsIn (λb=>w.heap.size+1+1<=b/\b < N/\b≠zb) wr vs (j5 v cE)/\Below w.heap.size w wr/\N<=wr.heap.size) (λi _=>c.length - (intOf i).toNat)
 case atStart=>exact⟨0,nO,0,[],j4 _,rfl,P5,Z5,U5,FRow.nil _ _,rfl,GV5,B5,e5⟩
 case round=>
  clear P5 Z5 U5 GV5 B5 e5;obtain⟨k,fs,fc,L,hk1,rfl,PR,ZR,UR,FR,HL,GV,LR,zr⟩:=hrel;have LL:Hid (L.length=k):=by
   show _=_;have h1:=congrArg List.length HL.out;simpa using h1
  by_cases hlt:k < c.length
  ·have n0:(0:Int)<=(k:Int):=by omega
   have n1:(k:Int) < (c.length:Int):=by omega
   obtain⟨⟨p0,p1,p2⟩,pz⟩:=id PR;obtain⟨⟨y0,y1,y2⟩,yz,yf⟩:=id UR;have HKZ:Hid (∀wx,Below N wr wx->wx.cell? ⟨w.heap.size,1,nO⟩=sO (I Y (f:Int))/\wx.cell? ⟨zb,2,nO⟩=sO (U fs L.length fc)):=λwx hx=>⟨by rw[hx.cell (by simp only;omega)];exact p1,by rw[hx.cell (by simp only;omega)];exact y2⟩;have HD:Below wr.heap.size wr wr.drew:=(bR _ _).drew
   go_upto_region 9 with fail
   clear p0 p1 p2 pz y0 y1 y2 yz yf;refine aw (S:=(λwx=>wx.cell? ⟨w.heap.size,1,nO⟩=sO (I Y (f:Int))/\wx.cell? ⟨zb,2,nO⟩=sO (U fs L.length fc))) [9] (by kernel_rfl) (HKZ.out _ (HD.mono zr)) (λhHeld=> ?_);refine vZ 0 ?_ ?_;refine vZ 1 ?_ ?_;refine vZ 3 ?_ ?_;refine vZ 4 ?_ ?_;refine am (i:=2) rfl (by kernel_rfl) (λK hK=> ?_);go_simp;go_at_call 77;refine(HNO.out _).mono ?_;rintro e w4 ⟨rfl,hb4⟩;have HW4:Below wr.heap.size wr w4:=HD.trans (hb4.mono HD.size);have HB4:Below N wr w4:=HW4.mono zr;go_wp2_with fail;refine hK.out _ _ (HKZ.out _ HB4) (λhHeld=> ?_);clear hK K;refine sm ?_;refine am (i:=5) rfl (by kernel_rfl) (λK hK=> ?_);go_simp;go_at_call 78;refine(HRF.out _).mono ?_;rintro e w5 ⟨⟨rs,rfl,GR⟩,hb5⟩;have HW5:Below wr.heap.size wr w5:=HW4.trans (hb5.mono HW4.size);have HB5:Below N wr w5:=HW5.mono zr;go_wp2_with fail;refine hK.out _ _ (HKZ.out _ HB5) (λhHeld=> ?_);clear hK K;refine sm ?_;refine am (i:=6) rfl (by kernel_rfl) (λK hK=> ?_);go_simp;have HW6:Below wr.heap.size wr (w5.alloc (Cc #[U rs f f] 25)):=HW5.alloc HW5.size _;have HB6:Below N wr (w5.alloc (Cc #[U rs f f] 25)):=HW6.mono zr;refine hK.out _ _ (HKZ.out _ HB6) (λhHeld=> ?_);clear hK K;refine sm ?_;refine am (i:=7) rfl (by kernel_rfl) (λK hK=> ?_);have F6:=FR.call HW6;have RX:nu (λb=>N<=b/\(j3 fs L.length fc).ownBlock≠sO b) (w5.alloc (Cc #[U rs f f] 25)) ⟨rs,f,j5 f noneG⟩:=⟨(GR.mono λb h1 _=>⟨lT zr (lT HW4.size h1),λe=>by have:=(aH FR.1 e).1;have:=HW4.size;omega⟩).call (by go_grown),by simp,by unfold maxLen;simp only;omega⟩
   have hlr:(j5 f noneG).length=f:=J2;refine dK _ rfl _ _ 26 rfl N 25 tk (U nO 0 0) 1 24 Tryz.underlying26 hk hx0 hx1 hx2 rfl (by decide) _ _ _ rfl F6.1 (sO ⟨w5.heap.size,0,nO⟩) 1 1 [U rs f f] rfl rfl (λh=>by cases h) (sP w5 _ _) (by intro u hu;rw[List.mem_singleton.1 hu];rfl) (by unfold maxLen;have:=LL.out;omega) (by have:=LL.out;omega) (by rw[zA];have:=HW5.size;omega) ?_;intro v' w7 hown hgrow hat;have F7:=F6.grown (x:=⟨rs,f,j5 f noneG⟩) RX (by unfold rwV;rw[hlr];exact hown) hgrow hat;have HB7:Below N wr w7:=HB6.grown hgrow (by rw[zA];have:=HW5.size;omega) (λk hk=>(aH F6.1 hk).2)
   obtain⟨fs',fc',rfl,-,-,-⟩:=F7.rows;refine hK.out _ _ (HKZ.out _ HB7) (λhHeld=> ?_);clear hK K hown hgrow hat F6 RX HB6 HW6 HB5 HW5 GR hlr;refine sm ?_;refine vZ 8 ?_ ?_;refine bo (i:=9) rfl (by kernel_rfl) (by kernel_rfl) (λK hK=> ?_);have U7:X3 w7 zb _ _ _:=UR.same (HB7.block _ (by omega)) HB7.size;obtain⟨⟨y0,y1,y2⟩,yz,yf⟩:=id U7;have yf2:=yf 2;clear yf;go_simp;refine hK.out _ _ ?_;clear hK K;refine sm ?_;refine ap (by kernel_rfl) ?_ _;clear y0 y1 y2 yz yf2;have P7:=PR.low HB7 (by omega);have Z7:X3 w7 (w.heap.size+1) (Bb false) (U nO 0 0) (U nO 0 0):=ZR.same (HB7.block _ (by omega)) HB7.size;have V7:=GV.same (w':=w7) (λb hS _=>HB7.block b hS.2.1) HB7.size;have L7:=LR.trans (HB7.mono (by omega));have z7:N<=w7.heap.size:=lT zr HB7.size;have E7:Hid (∀(x:Value) b,b≠zb->(w7.setCell ⟨zb,2,nO⟩ x).heap[b]? =w7.heap[b]?):=λx b hb=>hSe _ _ _ _ hb;have S7:Hid (∀(x:Value),w7.heap.size<=(w7.setCell ⟨zb,2,nO⟩ x).heap.size):=λx=>by simp[j7]
   clear PR ZR UR FR LR zr HKZ GV HB7;go_wp2;go_roundw
   case rel=>exact⟨k+1,fs',fc',L++[⟨rs,f,j5 f noneG⟩],by omega,by go_num,P7.far (by simp only;omega) _,Z7.same (E7.out _ _ (by omega)) (S7.out _),by first|exact U7.put2 _|(rw[List.length_append];exact U7.put2 _),F7.old (λb hb=>E7.out _ b (by omega)) (S7.out _),by show _=_;rw[x1,HL.out,List.replicate_succ'];rfl,V7.same (λb hS _=>E7.out _ b hS.2.2) (S7.out _),L7.setCell (by simp only;omega) _,by simpa[j7] using z7⟩
   case measure=>simp[intOf];omega
  ·have n1':¬(k:Int) < (c.length:Int):=by omega
   have ek:k=c.length:=by omega
   have ELL:Hid (L.length=c.length):=by show _=_;rw[LL.out,ek]
   have hch:∀b,b≠w.heap.size+1->(((wr.setCell ⟨w.heap.size+1,0,nO⟩ (Bb false)).setCell ⟨w.heap.size+1,1,nO⟩ (U vs v v)).setCell ⟨w.heap.size+1,2,nO⟩ (U fs L.length fc)).heap[b]? =wr.heap[b]? :=λb hb=>by rw[hSe _ _ _ _ hb,hSe _ _ _ _ hb,hSe _ _ _ _ hb]
   have hcz:wr.heap.size<=(((wr.setCell ⟨w.heap.size+1,0,nO⟩ (Bb false)).setCell ⟨w.heap.size+1,1,nO⟩ (U vs v v)).setCell ⟨w.heap.size+1,2,nO⟩ (U fs L.length fc)).heap.size:=by simp[j7]
   have FX:=FR.old (w':=(((wr.setCell ⟨w.heap.size+1,0,nO⟩ (Bb false)).setCell ⟨w.heap.size+1,1,nO⟩ (U vs v v)).setCell ⟨w.heap.size+1,2,nO⟩ (U fs L.length fc))) (λb hb=>hch b (by omega)) hcz;have GX:=GV.same (w':=(((wr.setCell ⟨w.heap.size+1,0,nO⟩ (Bb false)).setCell ⟨w.heap.size+1,1,nO⟩ (U vs v v)).setCell ⟨w.heap.size+1,2,nO⟩ (U fs L.length fc))) (λb hS _=>hch b (by omega)) hcz;have BX:Below w.heap.size w (((wr.setCell ⟨w.heap.size+1,0,nO⟩ (Bb false)).setCell ⟨w.heap.size+1,1,nO⟩ (U vs v v)).setCell ⟨w.heap.size+1,2,nO⟩ (U fs L.length fc)):=((LR.setCell (by simp only;omega) _).setCell (by simp only;omega) _).setCell (by simp only;omega) _;have HFX:Hid (∀wz:World,(∀b,w.heap.size<=b->b < (((wr.setCell ⟨w.heap.size+1,0,nO⟩ (Bb false)).setCell ⟨w.heap.size+1,1,nO⟩ (U vs v v)).setCell ⟨w.heap.size+1,2,nO⟩ (U fs L.length fc)).heap.size->wz.heap[b]? =(((wr.setCell ⟨w.heap.size+1,0,nO⟩ (Bb false)).setCell ⟨w.heap.size+1,1,nO⟩ (U vs v v)).setCell ⟨w.heap.size+1,2,nO⟩ (U fs L.length fc)).heap[b]?)->(((wr.setCell ⟨w.heap.size+1,0,nO⟩ (Bb false)).setCell ⟨w.heap.size+1,1,nO⟩ (U vs v v)).setCell ⟨w.heap.size+1,2,nO⟩ (U fs L.length fc)).heap.size<=wz.heap.size->GsAt wz vs (j5 v cE)/\RowsAt wz fs (j5 c.length (j5 f noneG))):=λwz hs hz=>by
    obtain⟨fs0,fc0,e0,hk0,hk00,RW0⟩:=(FX.olden (w':=wz) (λb hb hlt=>hs b (by omega) hlt) hz).rows;cases e0;rw[HL.out,ek] at RW0;exact⟨(GX.same (λb hS hlt=>hs b (by have:=hS.1;omega) hlt) hz).at,RW0⟩
   have CFX:Hid (L.length<=fc/\fc<=maxLen):=by
    obtain⟨fs0,fc0,e0,hk0,hk00,-⟩:=FR.rows;cases e0;exact⟨hk0,hk00⟩
   obtain⟨⟨y0,y1,y2⟩,yz,yf⟩:=id UR;obtain⟨⟨d0,d1,d2⟩,dz,df⟩:=id ZR;have f0:=df 0;have f1:=df 1;have f2:=df 2;clear df yf hch hcz FX GX ek;go_wp2;refine bodyPost_ret (v:=Tu #[Ag #[Bb false,U vs v v,U fs L.length fc],I Y 0]) (by simp[results,Tryz.results38,go_sem,d0,d1,d2]) rfl ⟨?_,BX⟩;refine⟨vs,v,fs,fc,?_,λwz hs hz=>HFX.out wz hs hz,⟨by simp,by unfold maxLen;omega⟩,by rw[J2,<-ELL.out];exact CFX.out⟩;rw[ELL.out];simp
theorem Iq (V F:Int)(s:oA)(c:List Ins)(cap:Nat)(w:World)(hcd:CodeAt w s c):
  Calls pG 38 #[pv V F s c cap] w λe w'=>iF w.heap.size w' e (if ah V F c=0 then bt V F c else dn) (ah V F c)/\Below w.heap.size w w':=by
 by_cases h:ah V F c=0
 ·rw[if_pos h,h]
  obtain⟨⟨hV,_⟩,⟨hF,_⟩,_⟩:=bw h;obtain⟨v,rfl⟩:=x2 (show 0<=V by omega);obtain⟨f,rfl⟩:=x2 hF;exact Dn v f s c cap w hcd h
 ·rw[if_neg h]
  refine(AY V F s c cap w hcd h).mono ?_;rintro e w1 ⟨⟨us,uc,gs,gc,he,-,hcp⟩,hb⟩;exact⟨⟨us,uc,gs,gc,he,λwz _ _=>⟨λi hi=>absurd hi (by simp[dn]),λi hi=>absurd hi (by simp[dn])⟩,hcp⟩,hb⟩
end
end Go.Proofs.YtmapdpcfanecdabGreatDoor
