import Derived.Test.YtmapdpcfanecdabGreatDoorM24
import Derived.Test.YtmapdpcfanecdabGreatDoorM25
open Go.Ending renaming returned→Rt
open Go.IntKind renaming i64→Y
open Go.Obj renaming cells→Cc
open Go.Proofs.Tryz renaming prog→pG
open Go.RowKit.Below renaming heap_setCell→hSe,refl→bR
open Go.Value renaming agg→Ag,bool→Bb,int→I,pointer→Pp,slice→U,tuple→Tu
open Go.World renaming size_alloc→zA
open Nat renaming le_refl→lR
open Option renaming isSome_iff_exists→j0,none→nO,some→sO
set_option linter.unusedSimpArgs false
set_option linter.unusedVariables false
set_option maxHeartbeats 16000000
set_option maxRecDepth 100000
namespace Go.Proofs.YtmapdpcfanecdabGreatDoor
section
open Go.RowKit
theorem BH (V F:Int)(s:Option Addr)(c:List Ins)(cap:Nat)(g:Gs)(ss:Option Addr)(gc:Nat)(w:World)(hcd:CodeAt w s c)(hs:IntsAt w ss g.s)(h1:g.s.length≤gc)(h2:gc≤maxLen):
  Calls pG 140 #[pv V F s c cap,gv g ss gc] w λe w'=>e=Rt (I Y (aX V F c [g]))∧Below w.heap.size w w':=by
 have B0:Below w.heap.size w (pgW w V F s c cap g ss gc):=by go_grown
 have L0:=GsAt.new1 (pgW w V F s c cap g ss gc) g ss gc ((hs.alloc _).alloc _) h1 h2
 simp only[zA] at L0
 have HC:=aa (bZ V F s c cap (sO ⟨w.heap.size+1+1,0,nO⟩) [g] 1 _ (((hcd.alloc _).alloc _).alloc _) L0 (by simp))
 generalize aX V F c [g]=ce at HC ⊢
 clear hcd hs L0
 go_enter Tryz.func140,Tryz.ntmps140
 go_wp2_with (go_at_call 142;fail)
 refine HC.out.mono ?_
 rintro e w1 ⟨rfl,hb1⟩
 go_wp2
 go_ret
 exact⟨rfl,(B0.alloc B0.size _).trans (hb1.mono (by simp;omega))⟩

theorem Ec (V F:Int)(s:Option Addr)(c:List Ins)(cap:Nat)(g:Gs)(ss:Option Addr)(gc:Nat)(h:Gs)(st:Option Addr)(hc:Nat)(w:World)
  (hcd:CodeAt w s c)(hs:IntsAt w ss g.s)(h1:g.s.length≤gc)(h2:gc≤maxLen)(ht:IntsAt w st h.s)(h3:h.s.length≤hc)(h4:hc≤maxLen)(hck:aX V F c [g,h]=0)(hlen:([g,h].flatMap Gs.s).length≤1000000):
  Calls pG 72 #[pv V F s c cap,gv g ss gc,gv h st hc] w λe w'=>∃v,e=Rt (Tu #[Ag #[Bb (g.n||h.n),Bb (bq g.sp h.sp).n,I Y (bq g.sp h.sp).lo,I Y (bq g.sp h.sp).hi,Bb (g.t||h.t),Bb (g.f||h.f),v],I Y 0])∧w'.ownsRow w.heap.size 3 1 v (cA [g,h]).length ((cA [g,h]).map (.int .i64))∧Below w.heap.size w w':=by
 obtain⟨P0,G0,H0,R0,F0⟩:=eC w V F s c cap g ss gc h st hc
 have B0:=cU w V F s c cap g ss gc h st hc
 have C0:CodeAt (bH w V F s c cap g ss gc h st hc) s c:=hcd.below B0 (lR _)
 have I0:IntsAt (bH w V F s c cap g ss gc h st hc) ss g.s:=hs.below B0 (lR _)
 have J0:IntsAt (bH w V F s c cap g ss gc h st hc) st h.s:=ht.below B0 (lR _)
 have HT:=aa (tl V F s c cap g ss gc h st hc _ C0 I0 h1 h2 J0 h3 h4 hck hlen)
 clear hck hlen hcd hs ht P0 G0 H0 C0 I0 J0
 generalize bq g.sp h.sp=J at HT ⊢
 generalize cA [g,h]=T at HT ⊢
 go_enter Tryz.func72,Tryz.ntmps72
 go_wp2_with (go_at_call 123;fail)
 refine HT.out.mono ?_
 rintro e w1 ⟨v,rfl,hown,hb1⟩
 have R1:=R0.call hb1
 have F1:Fr7 w1 (w.heap.size+1+1+1):=F0.call hb1
 have B1:Below w.heap.size w w1:=B0.trans (hb1.mono B0.size)
 simp only[zA] at hown
 have O1:=hown
 obtain⟨vs,vc,rfl,-,-,-,-⟩:=IntsAt.own hown
 clear hb1 R0 F0 B0 HT hown
 obtain⟨⟨r0,r1,r2,r3,r4,r5,r6⟩,rz⟩:=id R1
 simp only[Nat.zero_add,dK] at r0 r1 r2 r3 r4 r5 r6
 have fz:=F1.1
 go_wp2
 refine bodyPost_ret (v:=Tu #[Ag #[Bb (g.n||h.n),Bb J.n,I Y J.lo,I Y J.hi,Bb (g.t||h.t),Bb (g.f||h.f),U vs T.length vc],I Y 0]) (by simp[results,Tryz.results72,go_sem,r0,r1,r2,r3,r4,r5,r6]) rfl ⟨_,rfl,?_,?_⟩
 ·exact iv (ix O1 (by omega)) (by omega)
 ·exact dM B1 (by omega)

theorem Fj (V F:Int)(s:Option Addr)(c:List Ins)(cap:Nat)(g:Gs)(ss:Option Addr)(gc:Nat)(h:Gs)(st:Option Addr)(hc:Nat)(w:World)
  (hcd:CodeAt w s c)(hs:IntsAt w ss g.s)(h1:g.s.length≤gc)(h2:gc≤maxLen)(ht:IntsAt w st h.s)(h3:h.s.length≤hc)(h4:hc≤maxLen)(hck:aX V F c [g,h]=0)(hlen:([g,h].flatMap Gs.s).length≤1000000):
  Calls pG 73 #[pv V F s c cap,gv g ss gc,gv h st hc] w λe w'=>∃v,e=Rt (Tu #[Ag #[Bb (g.n||h.n),Bb (bB g.sp h.sp).n,I Y (bB g.sp h.sp).lo,I Y (bB g.sp h.sp).hi,Bb (g.t||h.t),Bb (g.f||h.f),v],I Y 0])∧w'.ownsRow w.heap.size 3 1 v (cA [g,h]).length ((cA [g,h]).map (.int .i64))∧Below w.heap.size w w':=by
 obtain⟨P0,G0,H0,R0,F0⟩:=eC w V F s c cap g ss gc h st hc
 have B0:=cU w V F s c cap g ss gc h st hc
 have C0:CodeAt (bH w V F s c cap g ss gc h st hc) s c:=hcd.below B0 (lR _)
 have I0:IntsAt (bH w V F s c cap g ss gc h st hc) ss g.s:=hs.below B0 (lR _)
 have J0:IntsAt (bH w V F s c cap g ss gc h st hc) st h.s:=ht.below B0 (lR _)
 have HT:=aa (tE V F s c cap g ss gc h st hc _ C0 I0 h1 h2 J0 h3 h4 hck hlen)
 clear hck hlen hcd hs ht P0 G0 H0 C0 I0 J0
 generalize bB g.sp h.sp=J at HT ⊢
 generalize cA [g,h]=T at HT ⊢
 go_enter Tryz.func73,Tryz.ntmps73
 go_wp2_with (go_at_call 123;fail)
 refine HT.out.mono ?_
 rintro e w1 ⟨v,rfl,hown,hb1⟩
 have R1:=R0.call hb1
 have F1:Fr7 w1 (w.heap.size+1+1+1):=F0.call hb1
 have B1:Below w.heap.size w w1:=B0.trans (hb1.mono B0.size)
 simp only[zA] at hown
 have O1:=hown
 obtain⟨vs,vc,rfl,-,-,-,-⟩:=IntsAt.own hown
 clear hb1 R0 F0 B0 HT hown
 obtain⟨⟨r0,r1,r2,r3,r4,r5,r6⟩,rz⟩:=id R1
 simp only[Nat.zero_add,dK] at r0 r1 r2 r3 r4 r5 r6
 have fz:=F1.1
 go_wp2
 refine bodyPost_ret (v:=Tu #[Ag #[Bb (g.n||h.n),Bb J.n,I Y J.lo,I Y J.hi,Bb (g.t||h.t),Bb (g.f||h.f),U vs T.length vc],I Y 0]) (by simp[results,Tryz.results73,go_sem,r0,r1,r2,r3,r4,r5,r6]) rfl ⟨_,rfl,?_,?_⟩
 ·exact iv (ix O1 (by omega)) (by omega)
 ·exact dM B1 (by omega)
end
section
open Go.RowKit
attribute [local go_sem ↓] Go.wp_at_zero Go.wp_at_succ
structure RunRound (w0 wr:World) (m:Nat) (v f:Nat) (c:List Ins) (ins:List Int) (fuel k:Nat) (st:St) (s:Option Addr) (cap:Nat) (is:Option Addr) (ic:Nat):Prop where
 own:∃vv tv lv fv,OwnRun wr w0.heap.size m st vv tv lv fv
 low:Below w0.heap.size w0 wr
 c7:wr.cell? ⟨m,7,nO⟩=sO (I Y f)
 c8:wr.cell? ⟨m,8,nO⟩=sO (U s c.length cap)
 c9:wr.cell? ⟨m,9,nO⟩=sO (U is ins.length ic)
 ok:RunOk v f c st
 le:k≤fuel
 rel:stepsSt f c ins fuel (bj v)=((stepsSt f c ins (fuel - k) st).1,(stepsSt f c ins (fuel - k) st).2+k)
 lines:st.lines.length≤k
 taken:st.taken≤k
theorem RunRound.next {w0 wr w':World}{m v f:Nat}{c:List Ins}{ins:List Int}{fuel k:Nat}{st:St}{s:Option Addr}{cap:Nat}{is:Option Addr}{ic:Nat}{bs:List (Option Nat)}(h:RunRound w0 wr m v f c ins fuel k st s cap is ic)(hp:ProgOk v f c)(hf:st.fin=0)(hk:k < fuel)(hf5:fuel≤5000)(hs:MStep wr w' w0.heap.size m bs (bp f c ins st)):RunRound w0 w' m v f c ins fuel (k+1) (bp f c ins st) s cap is ic:=by
 have ht:=h.taken
 have hl:=h.lines
 refine⟨hs.1,h.low.trans hs.2.1,by rw[hs.2.2.1 7 (by omega)];exact h.c7,by rw[hs.2.2.1 8 (by omega)];exact h.c8,by rw[hs.2.2.1 9 (by omega)];exact h.c9,nv ins hp h.ok (by omega),hk,?_,?_,?_⟩
 ·rw[h.rel,show fuel - k=(fuel - (k+1))+1 by omega,rq hf]
  simp only[Prod.mk.injEq,true_and]
  omega
 ·have:=wj f c ins st;omega
 ·have:=nu f c ins st h.ok.tk (by omega);omega
theorem Ap (v f:Nat)(s:Option Addr)(c:List Ins)(cap:Nat)(is:Option Addr)(ic:Nat)(ins:List Int)(fuel:Nat)(w:World)(hc:CodeAt w s c)(hI:IntsAt w is ins)(hT:Tab w)(h0:ai v f c=0)(hf5:fuel≤5000):
  Calls pG 19 #[Ag #[I Y (v:Int),I Y (f:Int),U s c.length cap],U is ins.length ic,I Y (fuel:Int)] w λe w'=>∃vv tv lv fv,e=Rt (Tu #[Ag #[I Y (bE v f c ins fuel).1.at_,vv,tv,I Y (bE v f c ins fuel).1.taken,lv,I Y (bE v f c ins fuel).1.fin],I Y (bE v f c ins fuel).2,I Y 0])∧OwnRows w' w.heap.size (bE v f c ins fuel).1 vv tv lv fv∧RunOk v f c (bE v f c ins fuel).1∧(bE v f c ins fuel).1.lines.length≤5000∧Below w.heap.size w w':=by
 have hp:=bK h0
 have hv8:v≤8:=by have:=hp.v8;omega
 have hb0:Below w.heap.size w ((w.alloc (Cc #[I Y (v:Int),I Y (f:Int),U s c.length cap] 24)).alloc (Cc #[I Y 0,U nO 0 0,U nO 0 0,I Y 0,U nO 0 0,I Y 0] 33)):=by go_grown
 have Z0:=R6.new (w.alloc (Cc #[I Y (v:Int),I Y (f:Int),U s c.length cap] 24)) 33 (I Y 0) (U nO 0 0) (U nO 0 0) (I Y 0) (U nO 0 0) (I Y 0)
 rw[zA] at Z0
 have hc0:=hc.below hb0 (lR _)
 have hI0:=hI.below hb0 (lR _)
 have hT0:=hT.below hb0
 have HB:=aF (pX v f s c cap ((w.alloc (Cc #[I Y (v:Int),I Y (f:Int),U s c.length cap] 24)).alloc (Cc #[I Y 0,U nO 0 0,U nO 0 0,I Y 0,U nO 0 0,I Y 0] 33)) hc0 h0)
 have p0:((w.alloc (Cc #[I Y (v:Int),I Y (f:Int),U s c.length cap] 24)).alloc (Cc #[I Y 0,U nO 0 0,U nO 0 0,I Y 0,U nO 0 0,I Y 0] 33)).cell? ⟨w.heap.size,0,nO⟩=sO (I Y v):=by simp[go_sem]
 have p1:((w.alloc (Cc #[I Y (v:Int),I Y (f:Int),U s c.length cap] 24)).alloc (Cc #[I Y 0,U nO 0 0,U nO 0 0,I Y 0,U nO 0 0,I Y 0] 33)).cell? ⟨w.heap.size,1,nO⟩=sO (I Y f):=by simp[go_sem]
 have p2:((w.alloc (Cc #[I Y (v:Int),I Y (f:Int),U s c.length cap] 24)).alloc (Cc #[I Y 0,U nO 0 0,U nO 0 0,I Y 0,U nO 0 0,I Y 0] 33)).cell? ⟨w.heap.size,2,nO⟩=sO (U s c.length cap):=by simp[go_sem]
 have hzw:((w.alloc (Cc #[I Y (v:Int),I Y (f:Int),U s c.length cap] 24)).alloc (Cc #[I Y 0,U nO 0 0,U nO 0 0,I Y 0,U nO 0 0,I Y 0] 33)).heap.size=w.heap.size+1+1:=by simp
 have HQ:=aF hp
 clear hc hI hT h0 hp
 go_enter Tryz.func19,Tryz.ntmps19
 go_wp2_with (go_at_call 40;fail)
 generalize ((w.alloc (Cc #[I Y (v:Int),I Y (f:Int),U s c.length cap] 24)).alloc (Cc #[I Y 0,U nO 0 0,U nO 0 0,I Y 0,U nO 0 0,I Y 0] 33))=w0 at *
 refine HB.out.mono ?_
 rintro e w1 ⟨g,rfl,hown,hb1⟩
 clear HB
 rw[om v hv8] at hown
 have hz1:w0.heap.size≤w1.heap.size:=hb1.size
 have H2:Below w0.heap.size w0 (w1.alloc (Cc #[I Y 0,U (sO ⟨g,0,nO⟩) v v,U nO 0 0,I Y 0,U nO 0 0,I Y 0] 33)):=hb1.alloc hz1 _
 have H3:Below w0.heap.size w0 ((w1.alloc (Cc #[I Y 0,U (sO ⟨g,0,nO⟩) v v,U nO 0 0,I Y 0,U nO 0 0,I Y 0] 33)).alloc (Cc #[I Y 0,U (sO ⟨g,0,nO⟩) v v,U nO 0 0,I Y 0,U nO 0 0,I Y 0,I Y v,I Y f,U s c.length cap,U is ins.length ic] 98)):=H2.alloc (by simp;omega) _
 have R1:=rG hv8 hown
 have R3:=R1.below (w':=(w1.alloc (Cc #[I Y 0,U (sO ⟨g,0,nO⟩) v v,U nO 0 0,I Y 0,U nO 0 0,I Y 0] 33)).alloc (Cc #[I Y 0,U (sO ⟨g,0,nO⟩) v v,U nO 0 0,I Y 0,U nO 0 0,I Y 0,I Y v,I Y f,U s c.length cap,U is ins.length ic] 98)) (by go_grown)
 have C3:pM ((w1.alloc (Cc #[I Y 0,U (sO ⟨g,0,nO⟩) v v,U nO 0 0,I Y 0,U nO 0 0,I Y 0] 33)).alloc (Cc #[I Y 0,U (sO ⟨g,0,nO⟩) v v,U nO 0 0,I Y 0,U nO 0 0,I Y 0,I Y v,I Y f,U s c.length cap,U is ins.length ic] 98)) (w1.heap.size+1) (bj v) (U (sO ⟨g,0,nO⟩) v v) (U nO 0 0) (U nO 0 0):=by
  refine⟨⟨?_,?_,?_,?_,?_,?_⟩,λj=> ?_⟩<;>simp[go_sem,bj]
 have O3:=R3.run' C3 (by omega) (λhm=>by have:=(R1.lt hm).1;omega)
 have RR:RunRound w0 ((w1.alloc (Cc #[I Y 0,U (sO ⟨g,0,nO⟩) v v,U nO 0 0,I Y 0,U nO 0 0,I Y 0] 33)).alloc (Cc #[I Y 0,U (sO ⟨g,0,nO⟩) v v,U nO 0 0,I Y 0,U nO 0 0,I Y 0,I Y v,I Y f,U s c.length cap,U is ins.length ic] 98)) (w1.heap.size+1) v f c ins fuel 0 (bj v) s cap is ic:=
  ⟨⟨_,_,_,_,O3⟩,H3,by simp[go_sem],by simp[go_sem],by simp[go_sem],mc HQ.out,Nat.zero_le _,by simp,by simp[bj],by simp[bj]⟩
 have nf0:¬((fuel:Int) < 0):=by omega
 have hl0:w.heap.size < w1.heap.size:=by omega
 have hl1:w.heap.size+1 < w1.heap.size:=by omega
 have nf5:¬(5000 < (fuel:Int)):=by omega
 have q0:w1.cell? ⟨w.heap.size,0,nO⟩=sO (I Y v):=by rw[hb1.cell (by simp;omega)];exact p0
 have q1:w1.cell? ⟨w.heap.size,1,nO⟩=sO (I Y f):=by rw[hb1.cell (by simp;omega)];exact p1
 have q2:w1.cell? ⟨w.heap.size,2,nO⟩=sO (U s c.length cap):=by rw[hb1.cell (by simp;omega)];exact p2
 have HRR:=aF RR
 clear R1 R3 C3 O3 H2 H3 hown p0 p1 p2 RR
 go_wp2

 generalize (w1.alloc (Cc #[I Y 0,U (sO ⟨g,0,nO⟩) v v,U nO 0 0,I Y 0,U nO 0 0,I Y 0] 33)).alloc (Cc #[I Y 0,U (sO ⟨g,0,nO⟩) v v,U nO 0 0,I Y 0,U nO 0 0,I Y 0,I Y v,I Y f,U s c.length cap,U is ins.length ic] 98)=w3 at *
 go_loopw [12] (λi wr=>∃(k:Nat) (st:St),i=I Y k∧RunRound w0 wr (w1.heap.size+1) v f c ins fuel k st s cap is ic) (λi _=>fuel - (intOf i).toNat)
 case atStart=>exact⟨0,_,rfl,HRR.out⟩
 case round=>
  obtain⟨k,st,rfl,hR⟩:=hrel
  obtain⟨vv,tv,lv,fv,O⟩:=hR.own
  obtain⟨vs,vc,ts,tc,ls,lc,rfl,rfl,rfl,-⟩:=O.rows.at
  have l5:=O.fin_
  have hkf:=hR.le
  by_cases hfin:st.fin=0
  ·by_cases hlt:k < fuel
   ·have n1:(k:Int) < (fuel:Int):=by omega
    rw[hfin] at l5
    have HS:=aF (ux v f c st HQ.out hR.ok ins (w1.heap.size+1) w0.heap.size (U vs st.vars.length vc) (U ts st.things.length tc) (U ls st.lines.length lc) fv s cap is ic wr O hR.low.size hR.c7 hR.c8 hR.c9 (hc0.below hR.low (lR _)) (hI0.below hR.low (lR _)) (hT0.below hR.low) (by have:=hR.lines;omega))
    have HN:=aF (λ(w':World) (bs:List (Option Nat)) (hs:MStep wr w' w0.heap.size (w1.heap.size+1) bs (bp f c ins st))=>hR.next HQ.out hfin hlt hf5 hs)
    clear O hR
    go_wp2_with (go_at_call 46;fail)
    refine HS.out.mono ?_
    rintro e w5 ⟨rfl,hms⟩
    have HR5:=aF (HN.out _ _ hms)
    clear HS HN hms
    go_wp2
    go_roundw
    case rel=>exact⟨k+1,_,by go_num,HR5.out⟩
    case measure=>simp[intOf];omega
   ·have hkk:k=fuel:=by omega
    subst hkk
    rw[hfin] at l5
    have HX:=aF (And.intro O hR)
    have HE:Hid (bE v f c ins k=({st with fin:=4},k)):=by
     show _=_
     rw[wu (s:=st) (k:=k) (by rw[hR.rel,Nat.sub_self,fW (.inl rfl)];simp),if_pos hfin]
    have d5:=O.thaw 5
    have O4:=O.withFin 4
    have Z5:=((Z0.below hR.low Z0.2.1).same (w':=wr.setCell ⟨w1.heap.size+1,5,nO⟩ (I Y 4)) (hSe _ _ _ _ (by simp;omega)) (by simp[World.setCell]))
    obtain⟨⟨r0,r1,r2,r3,r4,r5⟩,rz,rf⟩:=id (Z0.below hR.low Z0.2.1)
    have g0:=rf 0
    have g1:=rf 1
    have g2:=rf 2
    have g3:=rf 3
    have g4:=rf 4
    have g5:=rf 5
    obtain⟨⟨m0,m1,m2,m3,m4,m5⟩,mz,mf⟩:=id O.r6
    rw[hfin] at m5
    have hbne:w.heap.size≠w1.heap.size:=by omega
    have hbne':w1.heap.size≠w.heap.size:=by omega
    have Z6:=Z5.put (I Y st.at_) (U vs st.vars.length vc) (U ts st.things.length tc) (I Y st.taken) (U ls st.lines.length lc) (I Y 4)
    obtain⟨⟨s0,s1,s2,s3,s4,s5⟩,sz,sf⟩:=id Z6
    have R6':=(O4.rows.set6 (b:=w.heap.size+1) (by omega) (I Y st.at_) (U vs st.vars.length vc) (U ts st.things.length tc) (I Y st.taken) (U ls st.lines.length lc) (I Y 4)).down (show w.heap.size≤w0.heap.size by omega)
    have HL:Below w.heap.size w (fL (wr.setCell ⟨w1.heap.size+1,5,nO⟩ (I Y 4)) (w.heap.size+1) (I Y st.at_) (U vs st.vars.length vc) (U ts st.things.length tc) (I Y st.taken) (U ls st.lines.length lc) (I Y 4)):=dU ((hb0.trans (hR.low.mono (by omega))).setCell (by simp;omega) _) (by omega) _ _ _ _ _ _
    have HY:=aF (And.intro R6' (And.intro HL (hR.ok.finish 4 (by omega) (by omega))))
    have hln:=hR.lines
    clear O hR O4 Z5 Z6 R6' HL HX
    go_wp2
    refine bodyPost_ret (v:=Tu #[Ag #[I Y st.at_,U vs st.vars.length vc,U ts st.things.length tc,I Y st.taken,U ls st.lines.length lc,I Y 4],I Y k,I Y 0]) (by simp[results,Tryz.results19,go_sem,r0,r1,r2,r3,r4,r5]) rfl ?_
    rw[HE.out]
    exact⟨_,_,_,fv,rfl,HY.out.1,HY.out.2.2,by show st.lines.length≤5000;omega,HY.out.2.1⟩
  ·have b5:(st.fin==0)=false:=by simpa using hfin
   have HE:Hid (bE v f c ins fuel=(st,k)):=by
    show _=_
    rw[wu (s:=st) (k:=k) (by rw[hR.rel,fW (.inr hfin)];simp),if_neg hfin]
   have Z5:=Z0.below hR.low Z0.2.1
   obtain⟨⟨r0,r1,r2,r3,r4,r5⟩,rz,rf⟩:=id Z5
   have g0:=rf 0
   have g1:=rf 1
   have g2:=rf 2
   have g3:=rf 3
   have g4:=rf 4
   have g5:=rf 5
   obtain⟨⟨m0,m1,m2,m3,m4,m5⟩,mz,mf⟩:=id O.r6
   have Z6:=Z5.put (I Y st.at_) (U vs st.vars.length vc) (U ts st.things.length tc) (I Y st.taken) (U ls st.lines.length lc) (I Y st.fin)
   obtain⟨⟨s0,s1,s2,s3,s4,s5⟩,sz,sf⟩:=id Z6
   have R6':=(O.rows.set6 (b:=w.heap.size+1) (by omega) (I Y st.at_) (U vs st.vars.length vc) (U ts st.things.length tc) (I Y st.taken) (U ls st.lines.length lc) (I Y st.fin)).down (show w.heap.size≤w0.heap.size by omega)
   have HL:Below w.heap.size w (fL wr (w.heap.size+1) (I Y st.at_) (U vs st.vars.length vc) (U ts st.things.length tc) (I Y st.taken) (U ls st.lines.length lc) (I Y st.fin)):=dU (hb0.trans (hR.low.mono (by omega))) (by omega) _ _ _ _ _ _
   have HY:=aF (And.intro R6' (And.intro HL hR.ok))
   have hln:=hR.lines
   clear O hR Z5 Z6 R6' HL
   go_wp2
   refine bodyPost_ret (v:=Tu #[Ag #[I Y st.at_,U vs st.vars.length vc,U ts st.things.length tc,I Y st.taken,U ls st.lines.length lc,I Y st.fin],I Y k,I Y 0]) (by simp[results,Tryz.results19,go_sem,r0,r1,r2,r3,r4,r5]) rfl ?_
   rw[HE.out]
   exact⟨_,_,_,fv,rfl,HY.out.1,HY.out.2.2,by show st.lines.length≤5000;omega,HY.out.2.1⟩
theorem BO (v f:Nat)(s:Option Addr)(c:List Ins)(cap:Nat)(r:St)(vs:Option Addr)(vc:Nat)(ts:Option Addr)(tc:Nat)(ls:Option Addr)(lc:Nat)(is:Option Addr)(ic:Nat)(ins:List Int)(w:World)(hc:CodeAt w s c)(hl:kD r)(hr:RunAt w r vs ts ls)(hI:IntsAt w is ins)(hT:Tab w)(hln:(r.lines.length+1) * 16≤140737488355328)(h0:dk v f c r=0):
  Calls pG 14 #[Ag #[I Y (v:Int),I Y (f:Int),U s c.length cap],mL r vs vc ts tc ls lc,U is ins.length ic] w λe w'=>∃vv tv lv fv,e=Rt (Tu #[Ag #[I Y (bp f c ins r).at_,vv,tv,I Y (bp f c ins r).taken,lv,I Y (bp f c ins r).fin],I Y 0])∧OwnRows w' w.heap.size (bp f c ins r) vv tv lv fv∧Below w.heap.size w w':=by
 have hp0:ai v f c=0:=by
  unfold dk at h0
  split at h0
  ·assumption
  ·exact h0
 have hr0:kG v f c r=0:=by
  unfold dk at h0
  rw[if_pos hp0] at h0
  exact h0
 have hp:=bK hp0
 have hk:=FL hr0
 have hb0:Below w.heap.size w (((w.alloc (Cc #[I Y (v:Int),I Y (f:Int),U s c.length cap] 24)).alloc (Cc #[I Y r.at_,U vs r.vars.length vc,U ts r.things.length tc,I Y r.taken,U ls r.lines.length lc,I Y r.fin] 33)).alloc (Cc #[I Y 0,U nO 0 0,U nO 0 0,I Y 0,U nO 0 0,I Y 0] 33)):=by go_grown
 have P0:=(P3.new w v f s c.length cap).call (w':=(((w.alloc (Cc #[I Y (v:Int),I Y (f:Int),U s c.length cap] 24)).alloc (Cc #[I Y r.at_,U vs r.vars.length vc,U ts r.things.length tc,I Y r.taken,U ls r.lines.length lc,I Y r.fin] 33)).alloc (Cc #[I Y 0,U nO 0 0,U nO 0 0,I Y 0,U nO 0 0,I Y 0] 33))) (by go_grown)
 have Q0:=(R6.new (w.alloc (Cc #[I Y (v:Int),I Y (f:Int),U s c.length cap] 24)) 33 (I Y r.at_) (U vs r.vars.length vc) (U ts r.things.length tc) (I Y r.taken) (U ls r.lines.length lc) (I Y r.fin)).call (w':=(((w.alloc (Cc #[I Y (v:Int),I Y (f:Int),U s c.length cap] 24)).alloc (Cc #[I Y r.at_,U vs r.vars.length vc,U ts r.things.length tc,I Y r.taken,U ls r.lines.length lc,I Y r.fin] 33)).alloc (Cc #[I Y 0,U nO 0 0,U nO 0 0,I Y 0,U nO 0 0,I Y 0] 33))) (by go_grown)
 have Z0:=R6.new ((w.alloc (Cc #[I Y (v:Int),I Y (f:Int),U s c.length cap] 24)).alloc (Cc #[I Y r.at_,U vs r.vars.length vc,U ts r.things.length tc,I Y r.taken,U ls r.lines.length lc,I Y r.fin] 33)) 33 (I Y 0) (U nO 0 0) (U nO 0 0) (I Y 0) (U nO 0 0) (I Y 0)
 rw[zA] at Q0
 rw[zA,zA] at Z0
 have HC:=aF (nD v f s c cap r vs vc ts tc ls lc (((w.alloc (Cc #[I Y (v:Int),I Y (f:Int),U s c.length cap] 24)).alloc (Cc #[I Y r.at_,U vs r.vars.length vc,U ts r.things.length tc,I Y r.taken,U ls r.lines.length lc,I Y r.fin] 33)).alloc (Cc #[I Y 0,U nO 0 0,U nO 0 0,I Y 0,U nO 0 0,I Y 0] 33)) (hc.below hb0 (lR _)) hl (hr.below hb0 (lR _)))
 rw[h0] at HC
 have HCR:=aF (λ(wx:World) (hx:Below w.heap.size w wx)=>yN r vs vc ts tc ls lc wx (hr.below hx (lR _)) (by have:=hk.vars;have:=hp.v8;omega) (λt ht=>by have:=hk.fields t ht;have:=hp.f3;omega) hk.things (by omega))
 unfold mL at HC HCR ⊢
 have HCD:=aF (λ(wx:World) (hx:Below w.heap.size w wx)=>And.intro (hc.below hx (lR _)) (And.intro (hI.below hx (lR _)) (hT.below hx)))
 have HP:=aF (And.intro hp hk)
 clear hc hl hr h0 hp0 hr0 hI hT hp hk
 have hz3:(((w.alloc (Cc #[I Y (v:Int),I Y (f:Int),U s c.length cap] 24)).alloc (Cc #[I Y r.at_,U vs r.vars.length vc,U ts r.things.length tc,I Y r.taken,U ls r.lines.length lc,I Y r.fin] 33)).alloc (Cc #[I Y 0,U nO 0 0,U nO 0 0,I Y 0,U nO 0 0,I Y 0] 33)).heap.size=w.heap.size+1+1+1:=by simp
 go_enter Tryz.func14,Tryz.ntmps14
 go_wp2_with (go_at_call 42;fail)
 generalize (((w.alloc (Cc #[I Y (v:Int),I Y (f:Int),U s c.length cap] 24)).alloc (Cc #[I Y r.at_,U vs r.vars.length vc,U ts r.things.length tc,I Y r.taken,U ls r.lines.length lc,I Y r.fin] 33)).alloc (Cc #[I Y 0,U nO 0 0,U nO 0 0,I Y 0,U nO 0 0,I Y 0] 33))=w3 at *
 refine HC.out.mono ?_
 rintro e w4 ⟨rfl,hb4⟩
 clear HC
 have H4:=hb0.trans (hb4.mono hb0.size)
 have P4:=P0.call hb4
 have Q4:=Q0.call hb4
 have Z4:=Z0.call hb4
 have hz4:w.heap.size+1+1+1≤w4.heap.size:=by have:=hb4.size;omega
 have KS:∀wx,Below w4.heap.size w4 wx→wx.cell? ⟨w.heap.size,0,nO⟩=sO (I Y v)∧wx.cell? ⟨w.heap.size,1,nO⟩=sO (I Y f)∧wx.cell? ⟨w.heap.size,2,nO⟩=sO (U s c.length cap)∧wx.cell? ⟨w.heap.size+1,0,nO⟩=sO (I Y r.at_)∧wx.cell? ⟨w.heap.size+1,1,nO⟩=sO (U vs r.vars.length vc)∧wx.cell? ⟨w.heap.size+1,2,nO⟩=sO (U ts r.things.length tc)∧wx.cell? ⟨w.heap.size+1,3,nO⟩=sO (I Y r.taken)∧wx.cell? ⟨w.heap.size+1,4,nO⟩=sO (U ls r.lines.length lc)∧wx.cell? ⟨w.heap.size+1,5,nO⟩=sO (I Y r.fin):=λwx hx=>by
  obtain⟨⟨p0,p1,p2⟩,-⟩:=P4.call hx
  obtain⟨⟨r0,r1,r2,r3,r4,r5⟩,-,-⟩:=Q4.call hx
  exact⟨p0,p1,p2,r0,r1,r2,r3,r4,r5⟩
 clear P0 Q0 Z0 hb4 P4 Q4
 go_upto_region 4 with fail
 go_cut [9] (λp9 wy=>∃m vv tv lv fv,p9=Pp (sO ⟨m,0,nO⟩)∧OwnRun wy w4.heap.size m r vv tv lv fv∧wy.cell? ⟨m,7,nO⟩=sO (I Y f)∧wy.cell? ⟨m,8,nO⟩=sO (U s c.length cap)∧wy.cell? ⟨m,9,nO⟩=sO (U is ins.length ic)∧Below w4.heap.size w4 wy)
 case first=>
  rename_i J1 K1' hJ1 hK1
  refine au (S:=λwx=>wx.cell? ⟨w.heap.size,0,nO⟩=sO (I Y v)∧wx.cell? ⟨w.heap.size,1,nO⟩=sO (I Y f)∧wx.cell? ⟨w.heap.size,2,nO⟩=sO (U s c.length cap)∧wx.cell? ⟨w.heap.size+1,0,nO⟩=sO (I Y r.at_)∧wx.cell? ⟨w.heap.size+1,1,nO⟩=sO (U vs r.vars.length vc)∧wx.cell? ⟨w.heap.size+1,2,nO⟩=sO (U ts r.things.length tc)∧wx.cell? ⟨w.heap.size+1,3,nO⟩=sO (I Y r.taken)∧wx.cell? ⟨w.heap.size+1,4,nO⟩=sO (U ls r.lines.length lc)∧wx.cell? ⟨w.heap.size+1,5,nO⟩=sO (I Y r.fin)) [6] (by kernel_rfl) (KS _ (bR _ _).drew) (λhHeld=> ?_)
  have HB0:Below w4.heap.size w4 w4.drew:=(bR _ _).drew
  have hzd:w4.drew.heap.size=w4.heap.size:=rfl
  generalize w4.drew=wq at *
  refine vZ 0 ?_ ?_
  refine vZ 2 ?_ ?_
  refine vZ 3 ?_ ?_
  refine mS (i:=1) (j:=5) rfl rfl (by kernel_rfl) (λK hK=> ?_) (λK hK=> ?_)
  ·go_simp
   go_at_call 45
   refine(HCR.out wq (H4.trans (HB0.mono H4.size))).mono ?_
   rintro e w5 ⟨vv,tv,lv,fv,rfl,OR,hb5⟩
   obtain⟨vs1,vc1,ts1,tc1,ls1,lc1,rfl,rfl,rfl,-⟩:=OR.at
   have HB5:Below w4.heap.size w4 w5:=HB0.trans (hb5.mono HB0.size)
   go_wp2_with fail
   refine hK.out _ _ (KS _ HB5) (λhHeld=> ?_)
   clear hK K
   refine sm ?_
   refine vZ 4 ?_ ?_
   refine an (i:=5) rfl (by kernel_rfl) (λK hK=> ?_)
   go_simp
   have HB6:Below w4.heap.size w4 (w5.alloc (Cc #[I Y 0,U nO 0 0,U nO 0 0,I Y 0,U nO 0 0,I Y 0,I Y 0,I Y 0,U nO 0 0,U nO 0 0] 98)):=HB5.alloc HB5.size _
   refine hK.out _ _ (KS _ HB6) (λhHeld=> ?_)
   clear hK K
   refine sm ?_
   refine aL (i:=6) rfl (by kernel_rfl) (by kernel_rfl) (λK hK=> ?_)
   go_simp
   refine hK.out _ _ ?_
   clear hK K
   refine sm ?_
   refine aq (by kernel_rfl) ?_ _
   refine hK1 _ _ (Met.intro (hJ1 _ _ ?_))
   (repeat apply Exists.intro)
   refine⟨?_,rfl⟩
   have HB7:Below w4.heap.size w4 (w5.alloc (Cc #[I Y r.at_,U vs1 r.vars.length vc1,U ts1 r.things.length tc1,I Y r.taken,U ls1 r.lines.length lc1,I Y r.fin,I Y v,I Y f,U s c.length cap,U is ins.length ic] 98)):=HB5.alloc HB5.size _
   have OR7:=(OR.below (w':=w5.alloc (Cc #[I Y r.at_,U vs1 r.vars.length vc1,U ts1 r.things.length tc1,I Y r.taken,U ls1 r.lines.length lc1,I Y r.fin,I Y v,I Y f,U s c.length cap,U is ins.length ic] 98)) (by go_grown)).down (show w4.heap.size≤wq.heap.size by omega)
   refine⟨w5.heap.size,_,_,_,fv,rfl,OR7.run' ?_ HB5.size (λhm=> ?_),by simp[go_sem],by simp[go_sem],by simp[go_sem],HB7⟩
   ·refine⟨⟨?_,?_,?_,?_,?_,?_⟩,λj=> ?_⟩<;>simp[go_sem]
   ·exact Nat.lt_irrefl _ (OR.lt hm).1
  ·go_simp
   have HB1:Below w4.heap.size w4 (wq.alloc (Cc #[I Y 0,U nO 0 0,U nO 0 0,I Y 0,U nO 0 0,I Y 0,I Y 0,I Y 0,U nO 0 0,U nO 0 0] 98)):=HB0.alloc HB0.size _
   have hmz:∀j,j < 0+10→((wq.alloc (Cc #[I Y 0,U nO 0 0,U nO 0 0,I Y 0,U nO 0 0,I Y 0,I Y 0,I Y 0,U nO 0 0,U nO 0 0] 98)).cell? ⟨w4.heap.size,j,nO⟩).isSome=true:=by
    intro j hj
    rw[←hzd]
    match j,hj with
    |0,_=>simp[go_sem]
    |1,_=>simp[go_sem]
    |2,_=>simp[go_sem]
    |3,_=>simp[go_sem]
    |4,_=>simp[go_sem]
    |5,_=>simp[go_sem]
    |6,_=>simp[go_sem]
    |7,_=>simp[go_sem]
    |8,_=>simp[go_sem]
    |9,_=>simp[go_sem]
    |n+10,h=>exact absurd h (by omega)
   have hmf:∀j,(wq.alloc (Cc #[I Y 0,U nO 0 0,U nO 0 0,I Y 0,U nO 0 0,I Y 0,I Y 0,I Y 0,U nO 0 0,U nO 0 0] 98)).frozen? ⟨w4.heap.size,j,nO⟩=false:=by
    intro j
    rw[←hzd]
    simp[go_sem]
   have hma:w4.heap.size < (wq.alloc (Cc #[I Y 0,U nO 0 0,U nO 0 0,I Y 0,U nO 0 0,I Y 0,I Y 0,I Y 0,U nO 0 0,U nO 0 0] 98)).heap.size:=by simp[hzd]
   have hma1:(wq.alloc (Cc #[I Y 0,U nO 0 0,U nO 0 0,I Y 0,U nO 0 0,I Y 0,I Y 0,I Y 0,U nO 0 0,U nO 0 0] 98)).heap.size=w4.heap.size+1:=by simp[hzd]
   refine hK.out _ _ (KS _ HB1) (λhHeld=> ?_)
   clear hK K
   refine sm ?_
   (try rw[hzd])
   generalize wq.alloc (Cc #[I Y 0,U nO 0 0,U nO 0 0,I Y 0,U nO 0 0,I Y 0,I Y 0,I Y 0,U nO 0 0,U nO 0 0] 98)=wa at *
   refine an (i:=1) rfl (by kernel_rfl) (λK hK=> ?_)
   go_simp
   go_at_call 45
   refine(HCR.out wa (H4.trans (HB1.mono H4.size))).mono ?_
   rintro e w5 ⟨vv,tv,lv,fv,rfl,OR,hb5⟩
   obtain⟨vs1,vc1,ts1,tc1,ls1,lc1,rfl,rfl,rfl,-⟩:=OR.at
   have HB5:Below w4.heap.size w4 w5:=HB1.trans (hb5.mono HB1.size)
   go_wp2_with fail
   refine hK.out _ _ (KS _ HB5) (λhHeld=> ?_)
   clear hK K
   refine sm ?_
   have hmz5:∀j,j < 0+10→(w5.cell? ⟨w4.heap.size,j,nO⟩).isSome=true:=λj hj=>by rw[hb5.cell (by simpa using hma)];exact hmz j hj
   have hmf5:∀j,w5.frozen? ⟨w4.heap.size,j,nO⟩=false:=λj=>by rw[hb5.frozen (by simpa using hma)];exact hmf j
   obtain⟨u0,e0⟩:=j0.1 (hmz5 0 (by omega))
   have d0:=hmf5 0
   obtain⟨u1,e1⟩:=j0.1 (hmz5 1 (by omega))
   have d1:=hmf5 1
   obtain⟨u2,e2⟩:=j0.1 (hmz5 2 (by omega))
   have d2:=hmf5 2
   obtain⟨u3,e3⟩:=j0.1 (hmz5 3 (by omega))
   have d3:=hmf5 3
   obtain⟨u4,e4⟩:=j0.1 (hmz5 4 (by omega))
   have d4:=hmf5 4
   obtain⟨u5,e5⟩:=j0.1 (hmz5 5 (by omega))
   have d5:=hmf5 5
   obtain⟨u6,e6⟩:=j0.1 (hmz5 6 (by omega))
   have d6:=hmf5 6
   obtain⟨u7,e7⟩:=j0.1 (hmz5 7 (by omega))
   have d7:=hmf5 7
   obtain⟨u8,e8⟩:=j0.1 (hmz5 8 (by omega))
   have d8:=hmf5 8
   obtain⟨u9,e9⟩:=j0.1 (hmz5 9 (by omega))
   have d9:=hmf5 9
   refine vZ 4 ?_ ?_
   have HM5:=aF (And.intro hmz5 hmf5)
   clear hmz hmf hmz5 hmf5
   refine aL (i:=6) rfl (by kernel_rfl) (by kernel_rfl) (λK hK=> ?_)
   go_simp
   refine hK.out _ _ ?_
   clear hK K
   refine sm ?_
   refine aq (by kernel_rfl) ?_ _
   refine hK1 _ _ (Met.intro (hJ1 _ _ ?_))
   (repeat apply Exists.intro)
   refine⟨?_,rfl⟩
   show∃m vv tv lv fv,_=_∧OwnRun (cu w5 w4.heap.size 0 [I Y r.at_,U vs1 r.vars.length vc1,U ts1 r.things.length tc1,I Y r.taken,U ls1 r.lines.length lc1,I Y r.fin,I Y v,I Y f,U s c.length cap,U is ins.length ic]) w4.heap.size m r vv tv lv fv∧(cu w5 w4.heap.size 0 [I Y r.at_,U vs1 r.vars.length vc1,U ts1 r.things.length tc1,I Y r.taken,U ls1 r.lines.length lc1,I Y r.fin,I Y v,I Y f,U s c.length cap,U is ins.length ic]).cell? ⟨m,7,nO⟩=sO (I Y f)∧(cu w5 w4.heap.size 0 [I Y r.at_,U vs1 r.vars.length vc1,U ts1 r.things.length tc1,I Y r.taken,U ls1 r.lines.length lc1,I Y r.fin,I Y v,I Y f,U s c.length cap,U is ins.length ic]).cell? ⟨m,8,nO⟩=sO (U s c.length cap)∧(cu w5 w4.heap.size 0 [I Y r.at_,U vs1 r.vars.length vc1,U ts1 r.things.length tc1,I Y r.taken,U ls1 r.lines.length lc1,I Y r.fin,I Y v,I Y f,U s c.length cap,U is ins.length ic]).cell? ⟨m,9,nO⟩=sO (U is ins.length ic)∧Below w4.heap.size w4 (cu w5 w4.heap.size 0 [I Y r.at_,U vs1 r.vars.length vc1,U ts1 r.things.length tc1,I Y r.taken,U ls1 r.lines.length lc1,I Y r.fin,I Y v,I Y f,U s c.length cap,U is ins.length ic])
   have HS:=uy w4.heap.size [I Y r.at_,U vs1 r.vars.length vc1,U ts1 r.things.length tc1,I Y r.taken,U ls1 r.lines.length lc1,I Y r.fin,I Y v,I Y f,U s c.length cap,U is ins.length ic] 0 w5 HM5.out.1
   have OR7:OwnRows (cu w5 w4.heap.size 0 [I Y r.at_,U vs1 r.vars.length vc1,U ts1 r.things.length tc1,I Y r.taken,U ls1 r.lines.length lc1,I Y r.fin,I Y v,I Y f,U s c.length cap,U is ins.length ic]) (w4.heap.size+1) r _ _ _ fv:=(by rw[←hma1];exact OR.same λk hk=>pV _ _ (λe=>by have:=(OR.lt hk).2;omega) _ _ _)
   refine⟨w4.heap.size,_,_,_,fv,rfl,OR7.run ?_ (Nat.le_succ _) (lR _) (Nat.lt_succ_self _),?_,?_,?_,mr _ (lR _) _ _ _ HB5⟩
   ·refine⟨⟨?_,?_,?_,?_,?_,?_⟩,λj=>by rw[pi];exact HM5.out.2 j⟩
    ·simpa using HS 0 (by simp)
    ·simpa using HS 1 (by simp)
    ·simpa using HS 2 (by simp)
    ·simpa using HS 3 (by simp)
    ·simpa using HS 4 (by simp)
    ·simpa using HS 5 (by simp)
   ·simpa using HS 7 (by simp)
   ·simpa using HS 8 (by simp)
   ·simpa using HS 9 (by simp)
 obtain⟨m,vv,tv,lv,fv,rfl,O,c7,c8,c9,HBc⟩:=hcut
 have Hc:Below w.heap.size w wc:=H4.trans (HBc.mono H4.size)
 obtain⟨CD,ID,TD⟩:=HCD.out wc Hc
 have HS:=aF (ux v f c r HP.out.1 HP.out.2 ins m w4.heap.size vv tv lv fv s cap is ic wc O HBc.size c7 c8 c9 CD ID TD hln)
 clear HCR HCD HP KS CD ID TD
 go_wp2_with (go_at_call 46;fail)
 refine HS.out.mono ?_
 rintro e w6 ⟨rfl,⟨vv6,tv6,lv6,fv6,O6⟩,M2,M3,M4⟩
 clear HS M3 M4 O
 have hm4:w4.heap.size≤m:=O6.low
 obtain⟨vs6,vc6,ts6,tc6,ls6,lc6,rfl,rfl,rfl,-⟩:=O6.rows.at
 have H46:Below w4.heap.size w4 w6:=HBc.trans M2
 have H6:Below w.heap.size w w6:=H4.trans (H46.mono H4.size)
 have Z6:=Z4.call H46
 obtain⟨⟨r0,r1,r2,r3,r4,r5⟩,rz,rf⟩:=id Z6
 have g0:=rf 0
 have g1:=rf 1
 have g2:=rf 2
 have g3:=rf 3
 have g4:=rf 4
 have g5:=rf 5
 obtain⟨⟨m0,m1,m2,m3,m4,m5⟩,mz,mf⟩:=id O6.r6
 have hne:m≠w.heap.size+1+1:=by omega
 have HY:=aF (And.intro ((O6.rows.set6 (b:=w.heap.size+1+1) (by omega) (I Y (bp f c ins r).at_) (U vs6 (bp f c ins r).vars.length vc6) (U ts6 (bp f c ins r).things.length tc6) (I Y (bp f c ins r).taken) (U ls6 (bp f c ins r).lines.length lc6) (I Y (bp f c ins r).fin)).down (show w.heap.size≤w4.heap.size by omega)) (dU H6 (show w.heap.size≤w.heap.size+1+1 by omega) (I Y (bp f c ins r).at_) (U vs6 (bp f c ins r).vars.length vc6) (U ts6 (bp f c ins r).things.length tc6) (I Y (bp f c ins r).taken) (U ls6 (bp f c ins r).lines.length lc6) (I Y (bp f c ins r).fin)))
 clear O6 Z6 Z4 rf mf H46 M2 HBc Hc
 generalize hst:bp f c ins r=st at *
 have HST:=aF hst
 clear hst
 go_wp2
 refine bodyPost_ret (v:=Tu #[Ag #[I Y st.at_,U vs6 st.vars.length vc6,U ts6 st.things.length tc6,I Y st.taken,U ls6 st.lines.length lc6,I Y st.fin],I Y 0]) (by simp[results,Tryz.results14,go_sem,r0,r1,r2,r3,r4,r5]) rfl ?_
 rw[HST.out]
 exact⟨_,_,_,fv6,rfl,HY.out.1,HY.out.2⟩
end
section
open Go.RowKit
theorem DA:(bE 1 0 smallC [] 10).1.fin=1:=by decide+kernel
theorem Ha:(bE 1 0 smallC [] 10).2=3:=by decide+kernel
theorem Ac:(bE 1 0 smallC [] 10).1.lines.map (·.data)=[#[53]]:=by decide+kernel
theorem wJ:(bp 0 smallC [] (bj 1)).at_=1:=by decide+kernel
theorem BF:dk 1 0 smallC (bj 1)=0:=by decide+kernel
theorem Ae:dk 1 0 smallC (bp 0 smallC [] (bj 1))=0:=by decide+kernel
theorem Eb:kD (bj 1):=⟨by decide+kernel,by decide+kernel,by decide+kernel,λt ht=>by simp[bj] at ht⟩
theorem Ca:kD (bp 0 smallC [] (bj 1)):=by
 refine⟨by decide+kernel,by decide+kernel,by decide+kernel,λt ht=> ?_⟩
 have h:(bp 0 smallC [] (bj 1)).things.length=0:=by decide+kernel
 rw[List.eq_nil_of_length_eq_zero h] at ht
 simp at ht
theorem sN:(bE 1 0 smallC [] 10).1.lines=[⟨#[53]⟩]:=by
 have h:=Ac
 generalize (bE 1 0 smallC [] 10).1.lines=l at h ⊢
 match l,h with
 |[⟨d⟩],h=>simp at h;rw[h]
def KH (w':World)(e:Ending)(st:St)(er:Int):Prop:=∃vs vc ts tc ls lc,e=Rt (Tu #[Ag #[I Y st.at_,U vs st.vars.length vc,U ts st.things.length tc,I Y st.taken,U ls st.lines.length lc,I Y st.fin],I Y er])∧RunAt w' st vs ts ls
def vE (V F:Int)(c:List Ins):St:=if ai V F c=0 then bj V else Cx
theorem OwnRows.runAt {w:World}{B:Nat}{st:St}{cv ct cl:Option Addr}{n1 n2 n3 cvc ctc clc:Nat}{fv:List Value}(h:OwnRows w B st (U cv n1 cvc) (U ct n2 ctc) (U cl n3 clc) fv):RunAt w st cv ct cl:=by
 obtain⟨_,_,_,_,_,_,e1,e2,e3,h1⟩:=h.at
 cases e1
 cases e2
 cases e3
 exact h1
theorem In (V F:Int)(s:Option Addr)(c:List Ins)(cap:Nat)(w:World)(hc:CodeAt w s c):
  Calls pG 40 #[Ag #[I Y V,I Y F,U s c.length cap]] w λe w'=>KH w' e (vE V F c) (ai V F c)∧Below w.heap.size w w':=by
 unfold vE
 by_cases h0:ai V F c=0
 ·have hp:=bK h0
  have hv8:=hp.v8
  obtain⟨v,rfl⟩:=Int.eq_ofNat_of_zero_le (show 0≤V by have:=hp.v1;omega)
  refine(pX v F s c cap w hc h0).mono ?_
  rintro e w' ⟨g,rfl,hown,hb⟩
  rw[om v (by omega)] at hown
  obtain⟨vs,vc,ts,tc,ls,lc,e1,e2,e3,hat⟩:=(rG (by omega) hown).at
  rw[h0,if_pos rfl]
  refine⟨⟨vs,vc,ts,tc,ls,lc,?_,hat⟩,hb⟩
  rw[←e1,←e2,←e3]
  rfl
 ·refine(uv V F s c cap w hc h0).mono ?_
  rintro e w' ⟨rfl,hb⟩
  rw[if_neg h0]
  exact⟨⟨nO,0,nO,0,nO,0,rfl,D6 _⟩,hb⟩
end
section
open Go.RowKit
attribute [local go_sem ↓] Go.wp_at_zero Go.wp_at_succ
theorem Fa (b:Nat)(w:World)(hc:CodeAt w (sO ⟨b,0,nO⟩) smallC)(hT:Tab w):
  Calls pG 19 #[Ag #[I Y 1,I Y 0,U (sO ⟨b,0,nO⟩) 2 2],U nO 0 0,I Y 10] w λe w'=>∃a rv rvn rvc rt rtn rtc k rl rlc,e=Rt (Tu #[Ag #[I Y a,U rv rvn rvc,U rt rtn rtc,I Y k,U rl 1 rlc,I Y 1],I Y 3,I Y 0])∧StrsAt w' rl [⟨#[53]⟩]∧Below w.heap.size w w':=by
 refine(Ap 1 0 (sO ⟨b,0,nO⟩) smallC 2 nO 0 [] 10 w hc (.inl rfl) hT (by decide+kernel) (by omega)).mono ?_
 rintro e w' ⟨vv,tv,lv,fv,rfl,OR,-,-,hb⟩
 obtain⟨vs,vc,ts,tc,ls,lc,rfl,rfl,rfl,h⟩:=OR.at
 have e0:bE ((1:Nat):Int) ((0:Nat):Int) smallC [] 10=bE 1 0 smallC [] 10:=rfl
 rw[e0] at h ⊢
 have hl:=h.2.2
 rw[sN] at hl
 refine⟨(bE 1 0 smallC [] 10).1.at_,vs,(bE 1 0 smallC [] 10).1.vars.length,vc,ts,(bE 1 0 smallC [] 10).1.things.length,tc,(bE 1 0 smallC [] 10).1.taken,ls,lc,?_,hl,hb⟩
 rw[DA,Ha,sN]
 rfl

theorem BI (b:Nat)(w:World)(hc:CodeAt w (sO ⟨b,0,nO⟩) smallC):
  Calls pG 40 #[Ag #[I Y 1,I Y 0,U (sO ⟨b,0,nO⟩) 2 2]] w λe w'=>∃bv bvc bt btc bl blc,e=Rt (Tu #[Ag #[I Y 0,U bv 1 bvc,U bt 0 btc,I Y 0,U bl 0 blc,I Y 0],I Y 0])∧RunAt w' (bj 1) bv bt bl∧Below w.heap.size w w':=by
 refine(In 1 0 (sO ⟨b,0,nO⟩) smallC 2 w hc).mono ?_
 rintro e w' ⟨⟨vs,vc,ts,tc,ls,lc,rfl,h⟩,hb⟩
 have h0:ai 1 0 smallC=0:=by decide+kernel
 have e1:vE 1 0 smallC=bj 1:=by unfold vE;rw[if_pos h0]
 rw[e1] at h
 refine⟨vs,vc,ts,tc,ls,lc,?_,h,hb⟩
 rw[e1,h0]
 rfl

theorem DX (b:Nat)(bv:Option Addr)(bvc:Nat)(bt:Option Addr)(btc:Nat)(bl:Option Addr)(blc:Nat)(w:World)(hc:CodeAt w (sO ⟨b,0,nO⟩) smallC)(hr:RunAt w (bj 1) bv bt bl)(hT:Tab w):
  Calls pG 14 #[Ag #[I Y 1,I Y 0,U (sO ⟨b,0,nO⟩) 2 2],Ag #[I Y 0,U bv 1 bvc,U bt 0 btc,I Y 0,U bl 0 blc,I Y 0],U nO 0 0] w λe w'=>∃st cv cvc ct ctc cl clc fv,e=Rt (Tu #[Ag #[I Y 1,U cv st.vars.length cvc,U ct st.things.length ctc,I Y st.taken,U cl st.lines.length clc,I Y st.fin],I Y 0])∧OwnRows w' w.heap.size st (U cv st.vars.length cvc) (U ct st.things.length ctc) (U cl st.lines.length clc) fv∧Hid (kD st)∧Hid (dk 1 0 smallC st=0)∧Hid (st.at_=1)∧Below w.heap.size w w':=by
 refine(BO 1 0 (sO ⟨b,0,nO⟩) smallC 2 (bj 1) bv bvc bt btc bl blc nO 0 [] w hc Eb hr (.inl rfl) hT (by decide+kernel) BF).mono ?_
 rintro e w' ⟨vv,tv,lv,fv,rfl,OR,hb⟩
 obtain⟨vs,vc,ts,tc,ls,lc,rfl,rfl,rfl,-⟩:=OR.at
 refine⟨bp 0 smallC [] (bj 1),vs,vc,ts,tc,ls,lc,fv,?_,OR,Ca,Ae,wJ,hb⟩
 rw[show ((0:Nat):Int)=0 from rfl,wJ]

theorem Bk (b:Nat)(st:St)(cv:Option Addr)(cvc:Nat)(ct:Option Addr)(ctc:Nat)(cl:Option Addr)(clc:Nat)(w:World)(hc:CodeAt w (sO ⟨b,0,nO⟩) smallC)(hr:RunAt w st cv ct cl)(hl:kD st)(h0:dk 1 0 smallC st=0)(h1:st.at_=1):
  Calls pG 42 #[Ag #[I Y 1,I Y 0,U (sO ⟨b,0,nO⟩) 2 2],Ag #[I Y 1,U cv st.vars.length cvc,U ct st.things.length ctc,I Y st.taken,U cl st.lines.length clc,I Y st.fin]] w λe w'=>e=Rt (I Y 0)∧Below w.heap.size w w':=by
 have h:=nD 1 0 (sO ⟨b,0,nO⟩) smallC 2 st cv cvc ct ctc cl clc w hc hl hr
 unfold mL at h
 rw[h1,h0] at h
 exact h

theorem rL {p:Prop}(h:p:=by
 have U9:=U5.put (.int .i64 1) (.slice cv st.vars.length cvc) (.slice ct st.things.length ctc) (.int .i64 st.taken) (.slice cl st.lines.length clc) (.int .i64 st.fin)
 have E9:Below we.heap.size we (fL w5 cb (.int .i64 1) (.slice cv st.vars.length cvc) (.slice ct st.things.length ctc) (.int .i64 st.taken) (.slice cl st.lines.length clc) (.int .i64 st.fin)):=dU E5 zc _ _ _ _ _ _
 have D9:RunAt (fL w5 cb (.int .i64 1) (.slice cv st.vars.length cvc) (.slice ct st.things.length ctc) (.int .i64 st.taken) (.slice cl st.lines.length clc) (.int .i64 st.fin)) st cv ct cl:=HF.out _ _ _ _ _ _
 obtain⟨⟨r0,r1,r2,r3,r4,r5⟩,rz,fz⟩:=id U5
 refine wpAnyH_ready (rs:=[7]) (by kernel_rfl) (by simp) ?_
 refine AllReadyH.cons rfl (λK hK=> ?_) AllReadyH.nil
 go_simp
 refine hK.out _ _ (KS3.out _ (A0.call E9)) (λhHeldz=> ?_)
 clear hK K
 refine sm ?_
 refine vH 8 ?_ ?_
 refine wpAnyH_done (by kernel_rfl) ?_ _
 first|refine hK1 _ _ (Met.intro (hJ _ _ ?_))|refine Met.intro (hJ _ _ ?_)|refine hJ _ _ ?_
 (repeat apply Exists.intro)
 refine⟨?_,rfl⟩
 exact⟨cb,st,cv,cvc,ct,ctc,cl,clc,rfl,rfl,hl,h0,h1,U9,D9,R0.call E9,L0.below E9 (Nat.le_refl _),B0.trans (E9.mono B0.size)⟩):p:=h
theorem su {p:Prop}(h:p:=by
 refine wpAnyH_ready (rs:=[2]) (by kernel_rfl) (by simp) ?_
 refine AllReadyH.cons rfl (λK hK=> ?_) AllReadyH.nil
 go_simp
 refine(HS.out _ bv bvc bt btc bl blc w4 C4 (G0.below E4 (Nat.le_refl _)) (hT0.below E4)).mono ?_
 rintro e w5 ⟨st,cv,cvc,ct,ctc,cl,clc,fv,rfl,O5,hl,h0,h1,hb5⟩
 have U5:=U4.call hb5
 have HF:=aF (λy0 y1 y2 y3 y4 y5=>(O5.set6 U4.2.1 y0 y1 y2 y3 y4 y5).runAt)
 have E5:=E4.trans (hb5.mono E4.size)
 refine hK.out _ _ (KS3.out _ (A0.call E5)) (λhHeld5=> ?_)
 clear hK K
 refine sm ?_
 refine vH 3 ?_ ?_
 refine vH 4 ?_ ?_
 refine vH 5 ?_ ?_
 clear hb5
 exact rL):p:=h
theorem yh (w:World)(hT:Tab w):
  Calls pG 12 #[] w λe w'=>e=Rt (Bb true)∧Below w.heap.size w w':=by
 have HR:=aF Fa
 have HB:=aF BI
 have HS:=aF DX
 have HC:=aF Bk
 go_enter Tryz.func12,Tryz.ntmps12
 go_wp2_with (go_at_call 39;fail)
 refine(g8 w).mono ?_
 rintro e w1 ⟨b1,rfl,c1,hb1⟩
 go_wp2_with (go_at_call 19;fail)
 refine(HR.out _ w1 c1 (hT.below hb1)).mono ?_
 rintro e w2 ⟨a,rv,rvn,rvc,rt,rtn,rtc,k,rl,rlc,rfl,L2,hb2⟩
 have B2:=hb1.trans (hb2.mono hb1.size)
 have L3:=L2.below (w':=w2.alloc (Cc #[I Y a,U rv rvn rvc,U rt rtn rtc,I Y k,U rl 1 rlc,I Y 1] 33)) (by go_grown) (lR _)
 have R3:=R6.new w2 33 (I Y a) (U rv rvn rvc) (U rt rtn rtc) (I Y k) (U rl 1 rlc) (I Y 1)
 have B3:Below w.heap.size w (w2.alloc (Cc #[I Y a,U rv rvn rvc,U rt rtn rtc,I Y k,U rl 1 rlc,I Y 1] 33)):=B2.alloc B2.size _
 clear L2 B2 hb1 hb2 c1 HR
 go_upto_region 2 with fail
 generalize w2.alloc (Cc #[I Y a,U rv rvn rvc,U rt rtn rtc,I Y k,U rl 1 rlc,I Y 1] 33)=w3 at *
 generalize w2.heap.size=rb at *
 go_wp2_with (go_at_call 39;fail)
 refine(g8 _).mono ?_
 rintro e w4 ⟨b4,rfl,c4,hb4⟩
 go_wp2_with (go_at_call 40;fail)
 refine(HB.out _ w4 c4).mono ?_
 rintro e w5 ⟨bv,bvc,bt,btc,bl,blc,rfl,G5,hb5⟩
 have H5:=hb4.trans (hb5.mono hb4.size)
 have H6:Below w3.heap.size w3 (w5.alloc (Cc #[I Y 0,U bv 1 bvc,U bt 0 btc,I Y 0,U bl 0 blc,I Y 0] 33)):=H5.alloc H5.size _
 have G0:=G5.below (w':=w5.alloc (Cc #[I Y 0,U bv 1 bvc,U bt 0 btc,I Y 0,U bl 0 blc,I Y 0] 33)) (by go_grown) (lR _)
 have A0:=R6.new w5 33 (I Y 0) (U bv 1 bvc) (U bt 0 btc) (I Y 0) (U bl 0 blc) (I Y 0)
 have R0:=R3.call H6
 have L0:=L3.below H6 (lR _)
 have B0:=B3.trans (H6.mono B3.size)
 have hT0:=hT.below B0
 clear G5 H5 H6 hb4 hb5 c4 HB R3 L3 B3 hT
 go_upto_region 3 with fail
 generalize w5.alloc (Cc #[I Y 0,U bv 1 bvc,U bt 0 btc,I Y 0,U bl 0 blc,I Y 0] 33)=we at *
 generalize w5.heap.size=bb at *
 have KS3:=aF (λwx (h:R6 wx bb (I Y 0) (U bv 1 bvc) (U bt 0 btc) (I Y 0) (U bl 0 blc) (I Y 0))=>h.1)
 go_cut [6,7] (λt6 t7 wc=>∃cb st cv cvc ct ctc cl clc,t6=Pp (sO ⟨cb,0,nO⟩)∧t7=I Y 0∧Hid (kD st)∧Hid (dk 1 0 smallC st=0)∧Hid (st.at_=1)∧R6 wc cb (I Y 1) (U cv st.vars.length cvc) (U ct st.things.length ctc) (I Y st.taken) (U cl st.lines.length clc) (I Y st.fin)∧RunAt wc st cv ct cl∧R6 wc rb (I Y a) (U rv rvn rvc) (U rt rtn rtc) (I Y k) (U rl 1 rlc) (I Y 1)∧StrsAt wc rl [⟨#[53]⟩]∧Below w.heap.size w wc)
 case first=>
  rename_i J1 K1 hJ hK1
  have E2:Below we.heap.size we we.drew:=(bR _ _).drew
  refine wp_region_held_drew (S:=λwx=>wx.cell? ⟨bb,0,nO⟩=sO (I Y 0)∧wx.cell? ⟨bb,1,nO⟩=sO (U bv 1 bvc)∧wx.cell? ⟨bb,2,nO⟩=sO (U bt 0 btc)∧wx.cell? ⟨bb,3,nO⟩=sO (I Y 0)∧wx.cell? ⟨bb,4,nO⟩=sO (U bl 0 blc)∧wx.cell? ⟨bb,5,nO⟩=sO (I Y 0)) (by kernel_rfl) (KS3.out _ (A0.call E2)) (λhHeld=> ?_)
  generalize we.drew=w2 at *
  refine vH 1 ?_ ?_
  refine wpAnyH_ready (rs:=[0,6]) (by kernel_rfl) (by simp) ?_
  refine AllReadyH.cons rfl (λK hK=> ?_) (AllReadyH.cons rfl (λK hK=> ?_) AllReadyH.nil)
  ·go_simp
   refine(g8 _).mono ?_
   rintro e w3 ⟨q3,rfl,C3,hb3⟩
   have E3:=E2.trans (hb3.mono E2.size)
   refine hK.out _ _ (KS3.out _ (A0.call E3)) (λhHeld3=> ?_)
   clear hK K
   refine sm ?_
   clear hb3
   refine wpAnyH_ready (rs:=[2,6]) (by kernel_rfl) (by simp) ?_
   refine AllReadyH.cons rfl (λK hK=> ?_) (AllReadyH.cons rfl (λK hK=> ?_) AllReadyH.nil)
   ·go_simp
    refine(HS.out _ bv bvc bt btc bl blc w3 C3 (G0.below E3 (lR _)) (hT0.below E3)).mono ?_
    rintro e w4 ⟨st,cv,cvc,ct,ctc,cl,clc,fv,rfl,O4,hl,h0,h1,hb4⟩
    have E4:=E3.trans (hb4.mono E3.size)
    refine hK.out _ _ (KS3.out _ (A0.call E4)) (λhHeld4=> ?_)
    clear hK K
    refine sm ?_
    refine vH 3 ?_ ?_
    refine vH 4 ?_ ?_
    refine vH 5 ?_ ?_
    clear hb4
    refine wpAnyH_ready (rs:=[6]) (by kernel_rfl) (by simp) ?_
    refine AllReadyH.cons rfl (λK hK=> ?_) AllReadyH.nil
    go_simp
    have hb5:Below w4.heap.size w4 (w4.alloc (Cc #[I Y 0,U nO 0 0,U nO 0 0,I Y 0,U nO 0 0,I Y 0] 33)):=by go_grown
    have U5:=R6.new w4 33 (I Y 0) (U nO 0 0) (U nO 0 0) (I Y 0) (U nO 0 0) (I Y 0)
    have zc:we.heap.size≤w4.heap.size:=E4.size
    have HF:=aF (λy0 y1 y2 y3 y4 y5=>(O4.runAt).below (w':=fL (w4.alloc (Cc #[I Y 0,U nO 0 0,U nO 0 0,I Y 0,U nO 0 0,I Y 0] 33)) w4.heap.size y0 y1 y2 y3 y4 y5) (dU (by go_grown) (lR _) _ _ _ _ _ _) (lR _))
    have E5:=E4.trans (hb5.mono E4.size)
    refine hK.out _ _ (KS3.out _ (A0.call E5)) (λhHeld5=> ?_)
    clear hK K
    refine sm ?_
    clear hb5
    clear O4
    generalize w4.alloc (Cc #[I Y 0,U nO 0 0,U nO 0 0,I Y 0,U nO 0 0,I Y 0] 33)=w5 at *
    generalize w4.heap.size=cb at *
    exact rL
   ·go_simp
    have hb4:Below w3.heap.size w3 (w3.alloc (Cc #[I Y 0,U nO 0 0,U nO 0 0,I Y 0,U nO 0 0,I Y 0] 33)):=by go_grown
    have U4:=R6.new w3 33 (I Y 0) (U nO 0 0) (U nO 0 0) (I Y 0) (U nO 0 0) (I Y 0)
    have zc:we.heap.size≤w3.heap.size:=E3.size
    have C4:=C3.below hb4 (lR _)
    have E4:=E3.trans (hb4.mono E3.size)
    refine hK.out _ _ (KS3.out _ (A0.call E4)) (λhHeld4=> ?_)
    clear hK K
    refine sm ?_
    clear hb4
    generalize w3.alloc (Cc #[I Y 0,U nO 0 0,U nO 0 0,I Y 0,U nO 0 0,I Y 0] 33)=w4 at *
    generalize w3.heap.size=cb at *
    exact su
  ·go_simp
   have hb3:Below w2.heap.size w2 (w2.alloc (Cc #[I Y 0,U nO 0 0,U nO 0 0,I Y 0,U nO 0 0,I Y 0] 33)):=by go_grown
   have U3:=R6.new w2 33 (I Y 0) (U nO 0 0) (U nO 0 0) (I Y 0) (U nO 0 0) (I Y 0)
   have zc:we.heap.size≤w2.heap.size:=E2.size
   have E3:=E2.trans (hb3.mono E2.size)
   refine hK.out _ _ (KS3.out _ (A0.call E3)) (λhHeld3=> ?_)
   clear hK K
   refine sm ?_
   clear hb3
   generalize w2.alloc (Cc #[I Y 0,U nO 0 0,U nO 0 0,I Y 0,U nO 0 0,I Y 0] 33)=w3 at *
   generalize w2.heap.size=cb at *
   refine wpAnyH_ready (rs:=[0]) (by kernel_rfl) (by simp) ?_
   refine AllReadyH.cons rfl (λK hK=> ?_) AllReadyH.nil
   go_simp
   refine(g8 _).mono ?_
   rintro e w4 ⟨q4,rfl,C4,hb4⟩
   have U4:=U3.call hb4
   have E4:=E3.trans (hb4.mono E3.size)
   refine hK.out _ _ (KS3.out _ (A0.call E4)) (λhHeld4=> ?_)
   clear hK K
   refine sm ?_
   clear hb4
   exact su
 case rest=>
  obtain⟨cb,st,cv,cvc,ct,ctc,cl,clc,rfl,rfl,hl,h0,h1,U1,D1,R1,L1,B1⟩:=hcut
  clear A0 R0 L0 G0 B0 hT0 HS KS3
  rcases L1 with L1|⟨lb,lo,rfl,zl,L1⟩
  ·simp at L1
  have L2:=L1 0 (by simp)
  clear L1
  simp only[Nat.add_zero,List.getElem_cons_zero] at L2
  obtain⟨⟨s0,s1,s2,s3,s4,s5⟩,sz,-⟩:=id R1
  have KS4:Hid (∀wx,Below wc.heap.size wc wx→wx.cell? ⟨rb,5,nO⟩=sO (I Y 1)∧wx.cell? ⟨rb,4,nO⟩=sO (U (sO ⟨lb,lo,nO⟩) 1 rlc)∧wx.cell? ⟨lb,lo,nO⟩=sO (.string ⟨#[53]⟩)∧wx.cell? ⟨cb,0,nO⟩=sO (I Y 1)∧wx.cell? ⟨cb,1,nO⟩=sO (U cv st.vars.length cvc)∧wx.cell? ⟨cb,2,nO⟩=sO (U ct st.things.length ctc)∧wx.cell? ⟨cb,3,nO⟩=sO (I Y st.taken)∧wx.cell? ⟨cb,4,nO⟩=sO (U cl st.lines.length clc)∧wx.cell? ⟨cb,5,nO⟩=sO (I Y st.fin)):=λwx hx=>⟨by rw[hx.cell (by simp only;exact sz)];exact s5,by rw[hx.cell (by simp only;exact sz)];exact s4,by rw[hx.cell (by simp only;exact zl)];exact L2,(U1.call hx).1⟩
  clear s0 s1 s2 s3 s4 s5 sz zl L2 R1 U1
  have D0:=D1
  clear D1
  go_wp2
  have E2:Below wc.heap.size wc wc.drew:=(bR _ _).drew
  refine wp_region_held_drew (S:=λwx=>wx.cell? ⟨rb,5,nO⟩=sO (I Y 1)∧wx.cell? ⟨rb,4,nO⟩=sO (U (sO ⟨lb,lo,nO⟩) 1 rlc)∧wx.cell? ⟨lb,lo,nO⟩=sO (.string ⟨#[53]⟩)∧wx.cell? ⟨cb,0,nO⟩=sO (I Y 1)∧wx.cell? ⟨cb,1,nO⟩=sO (U cv st.vars.length cvc)∧wx.cell? ⟨cb,2,nO⟩=sO (U ct st.things.length ctc)∧wx.cell? ⟨cb,3,nO⟩=sO (I Y st.taken)∧wx.cell? ⟨cb,4,nO⟩=sO (U cl st.lines.length clc)∧wx.cell? ⟨cb,5,nO⟩=sO (I Y st.fin)) (by kernel_rfl) (KS4.out _ E2) (λhHeld=> ?_)
  generalize wc.drew=w2 at *
  refine vH 0 ?_ ?_
  refine vH 1 ?_ ?_
  refine vH 2 ?_ ?_
  refine vH 3 ?_ ?_
  refine vH 4 ?_ ?_
  refine vH 5 ?_ ?_
  refine vH 6 ?_ ?_
  refine vH 7 ?_ ?_
  refine vH 8 ?_ ?_
  refine vH 9 ?_ ?_
  refine vH 10 ?_ ?_
  refine vH 11 ?_ ?_
  refine vH 12 ?_ ?_
  refine vH 13 ?_ ?_
  refine vH 14 ?_ ?_
  refine vH 15 ?_ ?_
  refine vH 16 ?_ ?_
  refine vH 17 ?_ ?_
  refine vH 18 ?_ ?_
  refine vH 19 ?_ ?_
  refine vH 20 ?_ ?_
  refine vH 21 ?_ ?_
  refine vH 22 ?_ ?_
  refine vH 23 ?_ ?_
  refine vH 24 ?_ ?_
  refine vH 25 ?_ ?_
  refine vH 26 ?_ ?_
  refine vH 27 ?_ ?_
  refine vH 28 ?_ ?_
  refine vH 29 ?_ ?_
  refine vH 30 ?_ ?_
  refine vH 31 ?_ ?_
  refine vH 32 ?_ ?_
  refine vH 33 ?_ ?_
  refine vH 34 ?_ ?_
  refine vH 35 ?_ ?_
  refine vH 36 ?_ ?_
  refine vH 37 ?_ ?_
  refine vH 39 ?_ ?_
  refine wpAnyH_ready (rs:=[38]) (by kernel_rfl) (by simp) ?_
  refine AllReadyH.cons rfl (λK hK=> ?_) AllReadyH.nil
  go_simp
  refine(g8 _).mono ?_
  rintro e w3 ⟨q3,rfl,C3,hb3⟩
  have E3:=E2.trans (hb3.mono E2.size)
  refine hK.out _ _ (KS4.out _ E3) (λhHeld3=> ?_)
  clear hK K
  refine sm ?_
  refine wpAnyH_ready (rs:=[40]) (by kernel_rfl) (by simp) ?_
  refine AllReadyH.cons rfl (λK hK=> ?_) AllReadyH.nil
  go_simp
  refine(HC.out _ st cv cvc ct ctc cl clc w3 C3 (D0.below E3 (lR _)) hl.out h0.out h1.out).mono ?_
  rintro e w4 ⟨rfl,hb4⟩
  have E4:=E3.trans (hb4.mono E3.size)
  refine hK.out _ _ (KS4.out _ E4) (λhHeld4=> ?_)
  clear hK K
  refine sm ?_
  refine vH 41 ?_ ?_
  refine vH 42 ?_ ?_
  refine vH 43 ?_ ?_
  refine wpAnyH_done (by kernel_rfl) ?_ _
  go_wp2
  refine bodyPost_ret (v:=Bb true) (by kernel_rfl) rfl ⟨rfl,B1.trans (E4.mono B1.size)⟩
end
end Go.Proofs.YtmapdpcfanecdabGreatDoor
