/- For every program that the law AlarmTells is handed, it returns true and leaves it as it was: Alarms and Sure of package alarm answer just what the document's own words ask, errors too. No condition but the row's own: the listed package-level variables hold what the program's text lays. -/
import Derived.Test.YtmapdpcfanecdabGreatDoorU41
import Derived.Test.YtmapdpcfanecdabGreatDoorU42
import Derived.Test.YtmapdpcfanecdabGreatDoorU43
import Derived.Test.YtmapdpcfanecdabGreatDoorU44
import Derived.Test.YtmapdpcfanecdabGreatDoorU45
import Derived.Test.YtmapdpcfanecdabGreatDoorU46
import Derived.Test.YtmapdpcfanecdabGreatDoorU37
import Derived.Test.YtmapdpcfanecdabGreatDoorU38
import Derived.Test.YtmapdpcfanecdabGreatDoorU39
import Derived.Test.YtmapdpcfanecdabGreatDoorU40
import Derived.Test.YtmapdpcfanecdabGreatDoorU49
import Derived.Test.YtmapdpcfanecdabGreatDoorU50
import Derived.Test.YtmapdpcfanecdabGreatDoorU53
import Derived.ChangeMaps5
open Bool renaming eq_false_or_eq_true→j0
open Go.Ending renaming returned→Rt
open Go.IntKind renaming i64→Y
open Go.Obj renaming cells→Cc
open Go.Proofs.Tryz renaming prog→pG
open Go.RowKit.Below renaming refl→bR
open Go.Value renaming agg→Ag,bool→Bb,bool→j2,int→I,pointer→Pp,slice→U,tuple→Tu
open Go.World renaming grownBy_alloc→j5,size_alloc→zA
open Int renaming eq_ofNat_of_zero_le→j4
open List renaming getElem_mem→gM,range→j3,take_of_length_le→j6
open Nat renaming le_refl→lR,zero_le→j1
open Option renaming none→nO,some→j7,some→sO
set_option linter.unusedSimpArgs false
set_option linter.unusedVariables false
set_option maxHeartbeats 80000000
set_option maxRecDepth 100000
namespace Go.Proofs.YtmapdpcfanecdabGreatDoor
section
open Go.RowKit
theorem M8 (w:World)(g:Gs)(ss:oA)(gc:Nat)(h:Gs)(st:oA)(hc:Nat)(hs:IntsAt w ss g.s)(hgl:g.s.length<=9223372036854775807)(ht:IntsAt w st h.s)(hhl:h.s.length<=9223372036854775807):
  Calls pG 115 #[I Y 9,gv g ss gc,gv h st hc] w λe w'=>e=Rt (if (ap g||ap h)=true then Tu #[gv noneG nO 0,Bb false] else Tu #[gv ⟨false,⟨true,0,0⟩,(g.n&&h.n)||(!(aF g.sp h.sp).n||((g.t&&h.t)||((g.f&&h.f)||g.s.any λx=>h.s.contains x))),!cM g h,[]⟩ nO 0,Bb false])/\bl w w':=by
 have c1:g.n=true\/g.n=false:=by cases g.n<;>simp
 have c2:h.n=true\/h.n=false:=by cases h.n<;>simp
 by_cases hS:bB g < 0\/bB g≠bB h
 ·rcases c1 with e1|e1
  ·rcases c2 with e2|e2
   ·exact Ge w g ss gc h st hc hs hgl ht hhl e1 e2 hS
   ·exact Ha w g ss gc h st hc hs hgl ht hhl e1 e2 hS
  ·exact Hr w g ss gc h st hc hs hgl ht hhl e1 hS
 ·have h1:¬bB g < 0:=λh=>hS (.inl h)
  have h2:bB g=bB h:=Classical.byContradiction λh=>hS (.inr h);rcases c1 with e1|e1
  ·rcases c2 with e2|e2
   ·exact Hq w g ss gc h st hc hs hgl ht hhl e1 e2 h1 h2
   ·exact Gj w g ss gc h st hc hs hgl ht hhl e1 e2 h1 h2
  ·exact GM w g ss gc h st hc hs hgl ht hhl e1 h1 h2
theorem mP {p:Prop}(h:p:=by
 rintro e w' ⟨rfl,hb⟩;cases hn:(ap g||ap h)
 ·exact⟨none,0,by rw[if_neg (by simp),AJ (by omega) hn],.inl ⟨by rw[AJ (by omega) hn],rfl,rfl⟩,hb⟩
 ·exact⟨none,0,vY,.inl ⟨vw,rfl,rfl⟩,hb⟩):p:=h
theorem KP {V F:Int}{c:lI}(g:Gs)(ss:oA)(gc:Nat)(h:Gs)(st:oA)(hc:Nat)(k:Int)(w:World)(hs:IntsAt w ss g.s)(hgl:g.s.length<=9223372036854775807)(ht:IntsAt w st h.s)(hhl:h.s.length<=9223372036854775807)(hck:aY V F c [g,h]=0)(hk:¬(k < 4\/10 < k)):
  Calls pG 115 #[I Y k,gv g ss gc,gv h st hc] w λe w'=>∃vs vc,e=Rt (Tu #[gv (cD k g h).1 vs vc,Bb (cD k g h).2])/\(((cD k g h).1.s=[]/\vs=nO/\vc=0)\/(vs=ss/\vc=gc/\(cD k g h).1.s=g.s))/\bl w w':=by
 obtain⟨-,hg,hh⟩:=mZ hck;have ok1:=ckSp_ok.mp (iI hg);have ok2:=ckSp_ok.mp (iI hh);have h7:k=4\/k=5\/k=6\/k=7\/k=8\/k=9\/k=10:=aa;rcases h7 with rfl|rfl|rfl|rfl|rfl|rfl|rfl
 ·refine(M9 w g ss gc h st hc).mono ?_
  rintro e w' ⟨rfl,hb⟩;cases hn:ap g
  ·exact⟨ss,gc,by rw[if_neg (by simp),Ai],.inr ⟨rfl,rfl,by rw[Ai]⟩,hb⟩
  ·exact⟨nO,0,by rw[if_pos rfl,Ai,mA hn hg],.inl ⟨by rw[Ai,mA hn hg];rfl,rfl,rfl⟩,hb⟩
 ·refine(MY w g ss gc h st hc ok1 ok2).mono ?_
  exact mP
 ·refine(Nc w g ss gc h st hc ok1 ok2).mono ?_
  exact mP
 ·refine(MO w g ss gc h st hc ok1 ok2).mono ?_
  exact mP
 ·refine(MW w g ss gc h st hc).mono ?_
  rintro e w' ⟨rfl,hb⟩;cases hn:(ap g||ap h)
  ·exact⟨nO,0,by rw[if_neg (by simp),Ka hn],.inl ⟨by rw[Ka hn],rfl,rfl⟩,hb⟩
  ·exact⟨nO,0,vY,.inl ⟨vw,rfl,rfl⟩,hb⟩
 ·refine(M8 w g ss gc h st hc hs hgl ht hhl).mono ?_
  rintro e w' ⟨rfl,hb⟩;cases hn:(ap g||ap h)
  ·exact⟨nO,0,by rw[if_neg (by simp),IB hn],.inl ⟨by rw[IB hn],rfl,rfl⟩,hb⟩
  ·exact⟨nO,0,vY,.inl ⟨vw,rfl,rfl⟩,hb⟩
 ·refine(Mt w g ss gc h st hc).mono ?_
  rintro e w' ⟨rfl,hb⟩;cases hn:ap g
  ·exact⟨nO,0,by rw[if_neg (by simp),uu],.inl ⟨by rw[uu],rfl,rfl⟩,hb⟩
  ·exact⟨nO,0,by rw[if_pos rfl,uu,mA hn hg,no_none.1,no_none.2];rfl,.inl ⟨by rw[uu],rfl,rfl⟩,hb⟩
end
section
open Go.RowKit
attribute [local go_sem ↓] Go.wp_at_zero Go.wp_at_succ
theorem tS {p:Prop}(h:p:=by
 have a0:=AP.1 0 _ rfl;have e0:=EP.1 0 _ rfl;have a1:=AP.1 1 _ rfl;have e1:=EP.1 1 _ rfl;have a2:=AP.1 2 _ rfl;have e2:=EP.1 2 _ rfl;have a3:=AP.1 3 _ rfl;have e3:=EP.1 3 _ rfl;have a4:=AP.1 4 _ rfl;have e4:=EP.1 4 _ rfl;have a5:=AP.1 5 _ rfl;have e5:=EP.1 5 _ rfl;have a6:=AP.1 6 _ rfl;have e6:=EP.1 6 _ rfl;go_wp2_with fail;refine(HDO.out wp BP).mono ?_;rintro e wd ⟨ss,cp,rfl,HJ0,hbd⟩;have HJ:=ae HJ0;clear HJ0 HDO a0 e0 a1 e1 a2 e2 a3 e3 a4 e4 a5 e5 a6 e6 i0 q19 q18 q16 q15 q17 q13 q12 q11 q1 q14 q2 q3;have TQ:=TP.call hbd;have IQ:=IP.call hbd;have YQ:=YP.call hbd;have OQ:=OP.call hbd;have BQ:=BP.trans (hbd.mono BP.size);have YWQ:=YW.trans (hbd.mono YW.size);clear TP IP YP OP BP YW hbd PP XP AP EP;have TP:=TQ;have IP:=IQ;have YP:=YQ;have OP:=OQ;have BP:=BQ;have YW:=YWQ;clear TQ IQ YQ OQ BQ YWQ;have z0:=TP.1 0 _ rfl;have fz0:=TP.2.2 0;have z1:=TP.1 1 _ rfl;have fz1:=TP.2.2 1;have z2:=TP.1 2 _ rfl;have fz2:=TP.2.2 2;have z3:=TP.1 3 _ rfl;have fz3:=TP.2.2 3;have z4:=TP.1 4 _ rfl;have fz4:=TP.2.2 4;have z5:=TP.1 5 _ rfl;have fz5:=TP.2.2 5;have z6:=TP.1 6 _ rfl;have fz6:=TP.2.2 6;go_upto_region 84 with fail
 clear z0 fz0 z1 fz1 z2 fz2 z3 fz3 z4 fz4 z5 fz5 z6 fz6;obtain⟨wx,ewx⟩:∃q,q=bw wd (w11.heap.size) 0 [.bool gg.n,.bool gg.sp.n,.int .i64 gg.sp.lo,.int .i64 gg.sp.hi,.bool gg.t,.bool gg.f,.slice ss gg.s.length cp]:=⟨_,rfl⟩;have PU:=bM TP 0 _ ewx;simp only[bw] at ewx;rw[<-ewx];clear ewx;have TX:=PU.cells;have IX:=PU.keep IP;have YX:=PU.keep YP;have OX:=PU.keep OP;have BX:=PU.low aa BP;have YWX:=PU.low aa YW;have HGI:Hid (IntsIn (λb=>(T b/\b < w.heap.size)\/w3.heap.size<=b) wx ss gg.s):=(PU.ints HJ.out.1 (λq hq=>aa)).mono λb hb _=>.inl hb;have HCP:Hid (gg.s.length<=cp/\cp<=maxLen):=HJ.out.2;clear PU HJ HGW;rcases Bool.eq_false_or_eq_true (ap gg) with hn0|hn0
 ·have hng:=ae hn0
  clear hn0;have HIS:Hid (∀wz,Calls Tryz.prog 116 #[.agg #[.bool gg.n,.bool gg.sp.n,.int .i64 gg.sp.lo,.int .i64 gg.sp.hi,.bool gg.t,.bool gg.f,.slice ss gg.s.length cp]] wz λe w'=>e=.returned (.bool true)/\bl wz w'):=λwz=>kC;have t0:=TX.1 0 _ rfl;have t1:=TX.1 1 _ rfl;have t2:=TX.1 2 _ rfl;have t3:=TX.1 3 _ rfl;have t4:=TX.1 4 _ rfl;have t5:=TX.1 5 _ rfl;have t6:=TX.1 6 _ rfl;go_wp2_with fail;refine((HIS.out wx).mono ?_);rintro e wy ⟨rfl,hby⟩;clear t0 t1 t2 t3 t4 t5 t6;have TY:=TX.call hby
  have IY:=IX.call hby
  have YY:=YX.call hby
  have OY:=OX.call hby
  have BY:=BX.trans (hby.mono BX.size);have YWY:=YWX.trans (hby.mono YWX.size);have HGY:=ae (IntsIn.call HGI.out hby);clear TX IX YX OX BX YWX HIS HGI;clear TY IY YY OY YWY HGY;go_wp2;refine bodyPost_ret (v:=.tuple #[.slice none 0 0,.bool wr,.bool false]) dH rfl ⟨?_,BY⟩;rw[HST.out,if_pos hng.out];exact⟨none,0,rfl,EdsOn.nil⟩
 ·have hng:=ae hn0
  clear hn0;have HIS:Hid (∀wz,Calls Tryz.prog 116 #[.agg #[.bool gg.n,.bool gg.sp.n,.int .i64 gg.sp.lo,.int .i64 gg.sp.hi,.bool gg.t,.bool gg.f,.slice ss gg.s.length cp]] wz λe w'=>e=.returned (.bool false)/\bl wz w'):=λwz=>kC;have t0:=TX.1 0 _ rfl;have t1:=TX.1 1 _ rfl;have t2:=TX.1 2 _ rfl;have t3:=TX.1 3 _ rfl;have t4:=TX.1 4 _ rfl;have t5:=TX.1 5 _ rfl;have t6:=TX.1 6 _ rfl;go_wp2_with fail;refine((HIS.out wx).mono ?_);rintro e wy ⟨rfl,hby⟩;clear t0 t1 t2 t3 t4 t5 t6;have TY:=TX.call hby
  have IY:=IX.call hby
  have YY:=YX.call hby
  have OY:=OX.call hby
  have BY:=BX.trans (hby.mono BX.size);have YWY:=YWX.trans (hby.mono YWX.size);have HGY:=ae (IntsIn.call HGI.out hby);clear TX IX YX OX BX YWX HIS HGI;have GP:=GOW.same (w':=wy) (λb _ hlt=>YWY.block b hlt) YWY.size;have GC:=o7 (T:=T) (y:=⟨gg,ss,cp⟩) GOW aa aa HGY.out HCP.out.1 HCP.out.2;have hktv:kt < v.l.length:=pn;obtain⟨vb,evb,eb1,hvb,zvb⟩:=GOW.vq.form aa;have GP2:=(GP.mono (T':=λb=>T b\/w.heap.size<=b) λb hb _=>.inr hb);have GS:=GP2.setV evb hktv GC;have GU:=GP.vq.gu evb (k:=kt) hktv;obtain⟨⟨u0,u1,u2,u3,u4,u5,u6⟩,uz⟩:=GU;have TH:=GP.vq.thaw evb;have f0:=TH (kt * 7);have f1:=TH (kt * 7+1);have f2:=TH (kt * 7+2);have f3:=TH (kt * 7+3);have f4:=TH (kt * 7+4);have f5:=TH (kt * 7+5);have f6:=TH (kt * 7+6);have y1:=YY.1 1 _ rfl;rw[evb] at y1;have i1:=IY.1 1 _ rfl;rw[HKT.out] at i1;have t0:=TY.1 0 _ rfl;have t1:=TY.1 1 _ rfl;have t2:=TY.1 2 _ rfl;have t3:=TY.1 3 _ rfl;have t4:=TY.1 4 _ rfl;have t5:=TY.1 5 _ rfl;have t6:=TY.1 6 _ rfl;have q0:(0:Int)<=(kt:Int):=aa;have q1:(kt:Int) < (v.l.length:Int):=aa;have HEV:=ae evb;have OS:Cells (bW wy vb kt ⟨gg,ss,cp⟩) w4.heap.size [.int .i64 ((m:Int)+1),.bool false,.slice v.rs v.l.length v.rc,.slice gs L.length gc]:=OY.same (cX aa) fD;have BS:bl w (bW wy vb kt ⟨gg,ss,cp⟩):=da BY aa;have HF:Hid (bU (λb=>T b\/w.heap.size<=b) (bW wy vb kt ⟨gg,ss,cp⟩) (.returned (.tuple #[.slice (some ⟨w4.heap.size,0,none⟩) 1 1,.bool wr,.bool false])) (aA i (m:Int) x)):=by
   show bU _ _ _ _;rw[HST.out,if_neg pd];refine⟨some ⟨w4.heap.size,0,none⟩,1,rfl,?_⟩;refine iF (S:=(λb=>T b\/w.heap.size<=b)) (v:=⟨v.rs,v.rc,v.l.set kt ⟨gg,ss,cp⟩⟩) (L:=L) po (.inr aa) GS (λb hb=>hb) (λb hb=>.inr aa) ?_;rw[dE,<-EPV.out,HKT.out]
  clear GP GC GP2 GS TH TY IY YY OY OS BY HGY GOW YWY EPV evb;obtain⟨wv,ewv⟩:∃q,q=bW wy vb kt ⟨gg,ss,cp⟩:=⟨_,rfl⟩;have HF2:=ae (And.intro HF.out BS);rw[<-ewv] at HF2;go_upto_region 87 with fail
  clear u0 u1 u2 u3 u4 u5 u6 uz f0 f1 f2 f3 f4 f5 f6 t0 t1 t2 t3 t4 t5 t6 y1 i1 HF BS;simp only[bW] at ewv;rw[<-ewv];clear ewv;go_wp2;refine bodyPost_ret (v:=.tuple #[.slice (some ⟨w4.heap.size,0,none⟩) 1 1,.bool wr,.bool false]) dH rfl HF2.out):p:=h
theorem sK {p:Prop}(h:p:=by
 rw[<-hgw] at h;refine h.mono ?_;rintro e w' ⟨ss,cp,h1,h2,h3⟩;refine⟨ss,cp,h1,?_,h3⟩;rcases h2 with⟨e1,rfl,rfl⟩|⟨rfl,rfl,e1⟩
 ·exact⟨.inl e1,by rw[e1];exact Nat.zero_le _,Nat.zero_le _⟩
 ·have e2:gg.s=x.vq[ka].s:=e1
  rw[e2];exact⟨hga.call h3,GAI.2⟩):p:=h
theorem tc {p:Prop}(h:p:=by
 show _=_;unfold aA;rw[e,if_neg mt,if_neg aa,if_neg aa,if_neg aa,if_neg aa,if_neg aa,if_neg aa,if_neg (show¬i.k=11 by omega)]):p:=h
theorem Gg {T:Nat->Prop}{V F:Int}{s:oA}{c:lI}{cap m:Nat}{i:Ins}{x:Pic}{vs:oA}{vc:Nat}{fs:oA}{fc:Nat}{w:World}{w3 w4 w7 w11 wp:World}{v:Ro}{gs:oA}{gc:Nat}{L:List Ro}(hx:PicOn T w x vs fs)(K:SCtx V F c x vc fc i (m:Int))(hk:4<=i.k/\i.k<=10){ka:Nat}{sska:oA}{gcka:Nat}(hkax:ka < x.vq.length)(eka:i.a=(ka:Int)){kb:Nat}{sskb:oA}{gckb:Nat}(hkbx:kb < x.vq.length)(ekb:i.b=(kb:Int))(SP:Hid (SPre T V F s c cap (m:Int) i x vs vc fs fc w wp (w.heap.size+1+1) w3.heap.size w4.heap.size w7.heap.size (w7.heap.size+1) w11.heap.size w3 v gs gc L x.vq[ka] sska gcka x.vq[kb] sskb gckb)):SwT (λe w'=>bU (λb=>T b\/w.heap.size<=b) w' e (aA i (m:Int) x)/\bl w w') m w w3 w4 w7 w11 wp:=by
 have HKAV:=ae eka;have HKBV:=ae ekb;have HKK:=ae hk;clear hk;have HK:=ae K;have HX:=ae hx;have h60:=K.lens.2.1;have n0:(0:Int)<=(m:Int):=K.a0;have n1:(m:Int) < (c.length:Int):=K.a1;have hm:m < c.length:=aa;have w61:(m:Int)<=60:=aa;clear K hx eka ekb;refine fN rfl λz0 z2 z4 u=> ?_;simp only[j3,j3.loop,List.map];obtain⟨BP,PP,XP,IP,YP,OP,AP,EP,TP,GAI,GBI,GOW,YW,-,EPV0,-,o2,o3,o4,o5,o6⟩:=SP.out;have EPV:=ae EPV0;clear EPV0;have i0:=IP.1 0 _ rfl;have hk1:=HKK.out.1;have hk2:=HKK.out.2;have q19:(i.k==19)=false:=an;have q18:(i.k==18)=false:=an;have q16:(i.k==16)=false:=an;have q15:(i.k==15)=false:=an;have q17:(i.k==17)=false:=an;have q13:(i.k==13)=false:=an;have q12:(i.k==12)=false:=an;have q11:(i.k==11)=false:=an;have q1:(i.k==1)=false:=an;have q14:(i.k==14)=false:=an;have q2:(i.k==2)=false:=an;have q3:(i.k==3)=false:=an;clear hk1 hk2;obtain⟨kt,ekt,hktx⟩:=HK.out.varTo DH;have HKT:=ae ekt;clear ekt;have ega:gAt x i.a=x.vq[ka]:=kK;have egb:gAt x i.b=x.vq[kb]:=by rw[HKBV.out,gk hkbx]
 obtain⟨⟨gg,wr⟩,hgw⟩:∃q,q=cD i.k x.vq[ka] x.vq[kb]:=⟨_,rfl⟩;have HGW:=ae hgw;have HST:Hid (aA i (m:Int) x=if ap gg then([],wr,false) else([⟨(m:Int)+1,aU x i.tgt gg⟩],wr,false)):=by
  have hr:=HKK.out;have e:aW i (m:Int) x=(gg,wr):=by
   unfold aW;rw[if_neg aa,if_neg aa,if_neg aa,if_neg aa,if_neg aa,if_neg aa,ega,egb];exact hgw.symm
  exact tc
 have HDO:Hid (∀wx,bl w wx->Calls pG 115 #[I Y i.k,Ag #[Bb x.vq[ka].n,Bb x.vq[ka].sp.n,I Y x.vq[ka].sp.lo,I Y x.vq[ka].sp.hi,Bb x.vq[ka].t,Bb x.vq[ka].f,U sska x.vq[ka].s.length gcka],Ag #[Bb x.vq[kb].n,Bb x.vq[kb].sp.n,I Y x.vq[kb].sp.lo,I Y x.vq[kb].sp.hi,Bb x.vq[kb].t,Bb x.vq[kb].f,U sskb x.vq[kb].s.length gckb]] wx λe w'=>∃ss cp,e=Rt (Tu #[Ag #[Bb gg.n,Bb gg.sp.n,I Y gg.sp.lo,I Y gg.sp.hi,Bb gg.t,Bb gg.f,U ss gg.s.length cp],Bb wr])/\(IntsIn (λb=>T b/\b < w.heap.size) w' ss gg.s/\gg.s.length<=cp/\cp<=maxLen)/\bl wx w'):=λwx hb'=>by
  have hr:=HKK.out;have hcka:=HK.out.kx.gv _ (gM hkax);have hgb:IntsAt wx sskb (x.vq[kb]:Gs).s/\(x.vq[kb]:Gs).s.length<=9223372036854775807:=⟨(GBI.1.same (w':=wx) (λb hb hlt=>hb'.block b hlt) hb'.size).at,by have:=GBI.2.1;have:=GBI.2.2;unfold maxLen at *;omega⟩
  have hga:IntsIn (λb=>T b/\b < w.heap.size) wx sska x.vq[ka].s:=(GAI.1.mono (S':=λb=>T b/\b < w.heap.size) λb hb hlt=>⟨hb,hlt⟩).same (λb hb hlt=>hb'.block b hlt) hb'.size;have h:=KP (V:=V) (F:=F) (c:=c) x.vq[ka] sska gcka x.vq[kb] sskb gckb i.k wx hga.at DJ hgb.1 hgb.2 (HK.out.duo hcka (HK.out.kx.gv _ (gM hkbx))) aa;exact sK
 clear hgw ega egb;exact tS
theorem Gm {T:Nat->Prop}{V F:Int}{s:oA}{c:lI}{cap m:Nat}{i:Ins}{x:Pic}{vs:oA}{vc:Nat}{fs:oA}{fc:Nat}{w:World}{w3 w4 w7 w11 wp:World}{v:Ro}{gs:oA}{gc:Nat}{L:List Ro}(hx:PicOn T w x vs fs)(K:SCtx V F c x vc fc i (m:Int))(hk:4<=i.k/\i.k<=10)(hnB:nB i.k=false){ka:Nat}{sska:oA}{gcka:Nat}(hkax:ka < x.vq.length)(eka:i.a=(ka:Int))(SP:Hid (SPre T V F s c cap (m:Int) i x vs vc fs fc w wp (w.heap.size+1+1) w3.heap.size w4.heap.size w7.heap.size (w7.heap.size+1) w11.heap.size w3 v gs gc L x.vq[ka] sska gcka noneG nO 0)):SwT (λe w'=>bU (λb=>T b\/w.heap.size<=b) w' e (aA i (m:Int) x)/\bl w w') m w w3 w4 w7 w11 wp:=by
 have HKAV:=ae eka;have HKK:=ae hk;have hnBO:=ae hnB;clear hk hnB;have HK:=ae K;have HX:=ae hx;have h60:=K.lens.2.1;have n0:(0:Int)<=(m:Int):=K.a0;have n1:(m:Int) < (c.length:Int):=K.a1;have hm:m < c.length:=aa;have w61:(m:Int)<=60:=aa;clear K hx eka;refine fN rfl λz0 z2 z4 u=> ?_;simp only[j3,j3.loop,List.map];obtain⟨BP,PP,XP,IP,YP,OP,AP,EP,TP,GAI,GBI,GOW,YW,-,EPV0,-,o2,o3,o4,o5,o6⟩:=SP.out;have EPV:=ae EPV0;clear EPV0;have i0:=IP.1 0 _ rfl;have hk1:=HKK.out.1;have hk2:=HKK.out.2;have q19:(i.k==19)=false:=an;have q18:(i.k==18)=false:=an;have q16:(i.k==16)=false:=an;have q15:(i.k==15)=false:=an;have q17:(i.k==17)=false:=an;have q13:(i.k==13)=false:=an;have q12:(i.k==12)=false:=an;have q11:(i.k==11)=false:=an;have q1:(i.k==1)=false:=an;have q14:(i.k==14)=false:=an;have q2:(i.k==2)=false:=an;have q3:(i.k==3)=false:=an;clear hk1 hk2;obtain⟨kt,ekt,hktx⟩:=HK.out.varTo DH;have HKT:=ae ekt;clear ekt;have ega:gAt x i.a=x.vq[ka]:=kK;obtain⟨⟨gg,wr⟩,hgw⟩:∃q,q=cD i.k x.vq[ka] noneG:=⟨_,rfl⟩;have HGW:=ae hgw;have EDO:Hid (∀h,cD i.k x.vq[ka] h=cD i.k x.vq[ka] noneG):=λh=>by
  have hb:=hnBO.out;have hr:=HKK.out;have:i.k=4\/i.k=10:=by unfold nB btw at hb;simp at hb;omega
  rcases this with e|e<;>rw[e]<;>simp[cD]
 have HST:Hid (aA i (m:Int) x=if ap gg then([],wr,false) else([⟨(m:Int)+1,aU x i.tgt gg⟩],wr,false)):=by
  have hr:=HKK.out;have e:aW i (m:Int) x=(gg,wr):=by
   unfold aW;rw[if_neg aa,if_neg aa,if_neg aa,if_neg aa,if_neg aa,if_neg aa,ega,EDO.out];exact hgw.symm
  exact tc
 have HDO:Hid (∀wx,bl w wx->Calls pG 115 #[I Y i.k,Ag #[Bb x.vq[ka].n,Bb x.vq[ka].sp.n,I Y x.vq[ka].sp.lo,I Y x.vq[ka].sp.hi,Bb x.vq[ka].t,Bb x.vq[ka].f,U sska x.vq[ka].s.length gcka],Ag #[Bb false,Bb true,I Y 0,I Y 0,Bb false,Bb false,U nO 0 0]] wx λe w'=>∃ss cp,e=Rt (Tu #[Ag #[Bb gg.n,Bb gg.sp.n,I Y gg.sp.lo,I Y gg.sp.hi,Bb gg.t,Bb gg.f,U ss gg.s.length cp],Bb wr])/\(IntsIn (λb=>T b/\b < w.heap.size) w' ss gg.s/\gg.s.length<=cp/\cp<=maxLen)/\bl wx w'):=λwx hb'=>by
  have hr:=HKK.out;have hcka:=HK.out.kx.gv _ (gM hkax);have hgb:IntsAt wx nO (noneG:Gs).s/\(noneG:Gs).s.length<=9223372036854775807:=⟨.inl rfl,j1 _⟩;have hga:IntsIn (λb=>T b/\b < w.heap.size) wx sska x.vq[ka].s:=(GAI.1.mono (S':=λb=>T b/\b < w.heap.size) λb hb hlt=>⟨hb,hlt⟩).same (λb hb hlt=>hb'.block b hlt) hb'.size;have h:=KP (V:=V) (F:=F) (c:=c) x.vq[ka] sska gcka noneG nO 0 i.k wx hga.at DJ hgb.1 hgb.2 (HK.out.duo hcka (rfl)) aa;exact sK
 clear hgw ega EDO;exact tS
theorem El {S:Nat->Prop}(V F:Int)(s:oA)(c:lI)(cap:Nat)(at_:Int)(i:Ins)(x:Pic)(vs:oA)(vc:Nat)(fs:oA)(fc:Nat)(w:World)(hn:x.none=true):
  Calls pG 59 #[pv V F s c cap,I Y at_,xv x vs vc fs fc] w λe w'=>bU S w' e (aA i at_ x)/\bl w w':=by
 have e:aA i at_ x=([],false,false):=by unfold aA;rw[if_pos hn]
 have exv:xv x vs vc fs fc=Ag #[Bb true,U vs x.vq.length vc,U fs x.fq.length fc]:=lK;rw[e,exv];clear e exv hn;go_enter Tryz.func59,Tryz.ntmps59;go_wp2;refine bodyPost_ret (v:=Tu #[U nO 0 0,Bb false,Bb false]) dH rfl ⟨⟨nO,0,rfl,EdsOn.nil⟩,ai⟩
theorem Lt {T:Nat->Prop}{V F:Int}{s:oA}{c:lI}{cap m:Nat}{i:Ins}{x:Pic}{vs:oA}{vc:Nat}{fs:oA}{fc:Nat}{w:World}(hc:CodeAt w s c)(hx:PicOn T w x vs fs)(K:SCtx V F c x vc fc i (m:Int)):
  Calls pG 59 #[pv V F s c cap,I Y (m:Int),xv x vs vc fs fc] w λe w'=>bU (λb=>T b\/w.heap.size<=b) w' e (aA i (m:Int) x)/\bl w w':=by
 have hk:=(cd K.one).1;unfold btw at hk;simp only[Bool.and_eq_true,decide_eq_true_eq] at hk;by_cases h1:i.k=1
 ·exact fA hc hx K (by rw[h1];rfl) (by rw[h1];rfl) (λ_ _ _ _ _ _ _ _ _ SP=>Mh hx K h1 SP)
 by_cases h2:i.k=2
 ·exact fA hc hx K (by rw[h2];rfl) (by rw[h2];rfl) (λ_ _ _ _ _ _ _ _ _ SP=>Lm hx K h2 SP)
 by_cases h3:i.k=3
 ·exact fA hc hx K (by rw[h3];rfl) (by rw[h3];rfl) (λ_ _ _ _ _ _ _ _ _ SP=>K5 hx K h3 SP)
 by_cases h11:i.k=11
 ·exact fA hc hx K (by rw[h11];rfl) (by rw[h11];rfl) (λ_ _ _ _ _ _ _ _ _ SP=>KE hx K h11 SP)
 by_cases h12:i.k=12
 ·exact ig hc hx K (by rw[h12];rfl) (by rw[h12];rfl) (λ_ _ _ _ _ _ _ _ _ _ _ _ ha ea SP=>Io hx K h12 ha ea SP)
 by_cases h13:i.k=13
 ·exact ud hc hx K (by rw[h13];rfl) (by rw[h13];rfl) (λ_ _ _ _ _ _ _ _ _ _ _ _ ha ea _ _ _ hb eb SP=>Ii hx K h13 ha ea hb eb SP)
 by_cases h14:i.k=14
 ·exact fA hc hx K (by rw[h14];rfl) (by rw[h14];rfl) (λ_ _ _ _ _ _ _ _ _ SP=>KH hx K h14 SP)
 by_cases h15:i.k=15
 ·exact ig hc hx K (by rw[h15];rfl) (by rw[h15];rfl) (λ_ _ _ _ _ _ _ _ _ _ _ _ ha ea SP=>If hx K h15 ha ea SP)
 by_cases h16:i.k=16
 ·exact fA hc hx K (by rw[h16];rfl) (by rw[h16];rfl) (λ_ _ _ _ _ _ _ _ _ SP=>KL hx K h16 SP)
 by_cases h17:i.k=17
 ·exact ig hc hx K (by rw[h17];rfl) (by rw[h17];rfl) (λ_ _ _ _ _ _ _ _ _ _ _ _ ha ea SP=>Kj hx K h17 ha ea SP)
 by_cases h18:i.k=18
 ·exact ig hc hx K (by rw[h18];rfl) (by rw[h18];rfl) (λ_ _ _ _ _ _ _ _ _ _ _ _ ha ea SP=>KD hx K h18 ha ea SP)
 by_cases h19:i.k=19
 ·exact fA hc hx K (by rw[h19];rfl) (by rw[h19];rfl) (λ_ _ _ _ _ _ _ _ _ SP=>Ik hx K h19 SP)
 have hr:4<=i.k/\i.k<=10:=aa;have hA:nA i.k=true:=by unfold nA btw;simp;omega
 rcases j0 (nB i.k) with hB|hB
 ·exact ud hc hx K hA hB (λ_ _ _ _ _ _ _ _ _ _ _ _ ha ea _ _ _ hb eb SP=>Gg hx K hr ha ea hb eb SP)
 ·exact ig hc hx K hA hB (λ_ _ _ _ _ _ _ _ _ _ _ _ ha ea SP=>Gm hx K hr hB ha ea SP)
theorem wD (T:Nat->Prop)(V F:Int)(s:oA)(c:lI)(cap:Nat)(at_:Int)(x:Pic)(vs:oA)(vc:Nat)(fs:oA)(fc:Nat)(w:World)(hc:CodeAt w s c)(hx:PicOn T w x vs fs)(h0:aw V F c=0)(hck:aK V F c x=0)(a0:0<=at_)(a1:at_ < c.length)(h1:x.vq.length<=vc/\vc<=maxLen)(h2:x.fq.length<=fc/\fc<=maxLen):
  Calls pG 59 #[pv V F s c cap,I Y at_,xv x vs vc fs fc] w λe w'=>bU (λb=>T b\/w.heap.size<=b) w' e (aA (bK c at_) at_ x)/\bl w w':=by
 rcases j0 x.none with hn|hn
 ·exact El V F s c cap at_ (bK c at_) x vs vc fs fc w hn
 ·obtain⟨m,rfl⟩:=j4 a0
  exact Lt hc hx ⟨h0,cr hck hn,rfl,a0,a1,h1,h2⟩
theorem KG:As:=by
 intro V F s c cap w h0;obtain⟨⟨hV1,hV8⟩,⟨hF0,hF3⟩,h60⟩:=bI h0;obtain⟨v,rfl⟩:=j4 (show 0<=V by omega);obtain⟨f,rfl⟩:=j4 hF0;refine(BU v f s c cap w aa aa h60).mono ?_;rintro e w' ⟨⟨vs,vc,fs,fc,h1,h2,h3⟩,hb⟩;exact⟨⟨vs,vc,fs,fc,h1,h2.at,h3⟩,hb⟩
theorem K7:CZ:=λT V F s c cap at_ x vs vc fs fc w hc hx h0 hck a0 a1 h1 h2=>wD T V F s c cap at_ x vs vc fs fc w hc hx h0 hck a0 a1 h1 h2
theorem Lu:Cv:=λS V F c wide x y vs1 vc1 fs1 fc1 vs2 vc2 fs2 fc2 w hx hy p1 p2 q1 q2 h0 h1 h2=>by
 cases wide with
 |false=>
  have h:=lk false _ (rT h0) x y vs1 vc1 fs1 fc1 vs2 vc2 fs2 fc2 w S hx hy p1 p2 q1 q2 h0 h1 h2;rw[(iK h0 h1 h2).1] at h;exact h
 |true=>
  have h:=lk true _ (Ke h0) x y vs1 vc1 fs1 fc1 vs2 vc2 fs2 fc2 w S hx hy p1 p2 q1 q2 h0 h1 h2;rw[(iK h0 h1 h2).2] at h;exact h
theorem By (V F:Int)(s:oA)(c:lI)(cap:Nat)(w:World)(hc:CodeAt w s c)(h0:aw V F c=0):
  Calls pG 31 #[pv V F s c cap] w λe w'=>Af V F c e w'/\bl w w':=Fg KG K7 Lu V F s c cap w hc h0
def MF (A:List (Int×Int))(e:Ending)(w':World):Prop:=∃(a:oA) (ac:Nat),e=Rt (U a A.length ac)/\AlsAt w' a A
theorem y6 {B:Nat}{W:World}{v:Value}{A:List (Int×Int)}(h:W.ownsRow B 62 2 v A.length (alC A)):∃a cp,v=U a A.length cp:=by
 rcases h.2 with⟨h,h2⟩|⟨g,cp,_,h,_⟩
 ·exact⟨nO,0,by rw[h,h2]⟩
 ·exact⟨_,_,h⟩
theorem yP {B:Nat}{w2 W W4:World}{v v':Value}{A:List (Int×Int)}{k kind:Int}{O:Obj}(hO:W.ownsRow B 62 2 v A.length (alC A))(BR:Below B w2 W)(hB:B<=W.heap.size)(hown:W4.ownsRow B 62 2 v' (A.length+1) (alC A++[I Y k,I Y kind]))(hgrow:(W.alloc O).grownBy W4 v.ownBlock):
  W4.ownsRow B 62 2 v' (bY A k kind true).length (alC (bY A k kind true))/\Below B w2 W4:=by
 have hz:(W.alloc O).heap.size=W.heap.size+1:=zA _ _;have h:W4.ownsRow B 62 2 v' (A++[(k,kind)]).length (alC (A++[(k,kind)])):=by
  rw[<-y7,List.length_append];exact hown
 exact⟨h,(BR.alloc hB O).grown hgrow aa (λq hq=>(hO.lt q hq).1)⟩
theorem sF {p:Prop}(h:p:=by
 intro v' w9 hown hgrow hat;have HN:=ae (yP HO.out BR zB hown hgrow);clear hown hgrow hat S4;go_wp2_with fail;go_meet;obtain⟨a9,c9,e9⟩:=y6 HN.out.1;rw[HE.out];exact⟨a9,c9,e9,by show _;rw[<-e9];exact HN.out.1,HN.out.2⟩):p:=h
theorem Ad (V F:Int)(s:oA)(c:lI)(cap m:Nat)(w:World)(hc:CodeAt w s c)(h0:aw V F c=0)(hs:SolvedAt V F c m):
  Calls pG 23 #[pv V F s c cap] w λe w'=>MF (aO c (aI V F c m) c.length) e w'/\bl w w':=by
 obtain⟨ti,hi,hz0,hz1,hz2⟩:=info_parts Tryz.info_alarm;have h60:=(bI h0).2.2;have B0:Below w.heap.size w (w.alloc (Cc #[I Y V,I Y F,U s c.length cap] 24)):=ai;have P0:=PrAt.new w V F s c cap;have HXO:=ae (dD h0 m);have HC:=ae hc;have H0:=ae h0;have HSO:Hid (∀wx,bl w wx->Calls pG 31 #[pv V F s c cap] wx λe w'=>(∃pb pc:Nat,e=Rt (Tu #[U (sO ⟨pb,0,nO⟩) (c.length+1) pc,I Y ((m+1:Nat):Int)])/\XsAt w' (sO ⟨pb,0,nO⟩) (aI V F c m))/\bl wx w'):=λwx hb=>by
  refine(By V F s c cap wx (hc.below hb (lR _)) h0).mono ?_;rintro e w' ⟨⟨m',pb,pc,hs',_,rfl,hx'⟩,hb'⟩;obtain rfl:=hs'.one hs;exact⟨⟨pb,pc,rfl,hx'⟩,hb'⟩
 generalize aI V F c m=L at *;clear hc h0 hs;go_enter Tryz.func23,Tryz.ntmps23;go_upto_region 1 with fail
 generalize w.alloc (Cc #[I Y V,I Y F,U s c.length cap] 24)=w0 at *;obtain⟨⟨p0,p1,p2⟩,pz⟩:=id P0;go_wp2_with fail;refine(HSO.out w0 B0).mono ?_;rintro e w2 ⟨⟨pb,pc,rfl,hX⟩,hb2⟩;have HX:=ae hX;have B2:=B0.trans (hb2.mono B0.size);have P2:=P0.call hb2;clear hX HSO p0 p1 p2 pz P0 B0 hb2;have HB2:=ae B2;clear B2;have O0:w2.ownsRow w2.heap.size 62 2 (U nO (aO c L 0).length 0) (aO c L 0).length (alC (aO c L 0)):=World.ownsRow_nil _ _ _ _;go_wp2;go_loopw [5,6] (λv i wr=>∃(k:Nat) (va:oA) (vcp:Nat),k<=c.length/\i=I Y k/\v=U va (aO c L k).length vcp/\Hid (wr.ownsRow w2.heap.size 62 2 (U va (aO c L k).length vcp) (aO c L k).length (alC (aO c L k)))/\bl w2 wr) (λ_ i _=>c.length - (intOf i).toNat)
 case atStart=>exact⟨0,nO,0,j1 _,rfl,rfl,O0,bR _ _⟩
 case round=>
  clear O0;obtain⟨k,va,vcp,hk,rfl,rfl,HO,BR⟩:=hrel;have PR:=P2.call BR;obtain⟨⟨p0,p1,p2⟩,pz⟩:=id PR;by_cases hlt:k < c.length;rotate_left
  ·have n1:¬(k:Int) < (c.length:Int):=by omega
   have ek:k=c.length:=aa;subst ek;have HA:=ae (iU HO.out);clear HO;go_wp2;go_ret;exact⟨⟨va,vcp,rfl,HA.out⟩,HB2.out.trans (BR.mono HB2.out.size)⟩
  have hxl:k < L.length:=by rw[HXO.out.len];omega
  obtain⟨_,_,els,zpb,vs,vc,fs,fc,⟨q0,q1,q2⟩,hPx,hvx,hfx⟩:=HX.out.below BR (lR _) k hxl;cases els;simp only[Nat.zero_add] at q0 q1 q2;obtain⟨x,ex⟩:∃x,x=L[k]:=⟨_,rfl⟩;have hckx:aK V F c x=0:=Do;have exa:bm L (k:Int)=x:=by rw[fQ hxl,ex]
  rw[<-ex] at q0 q1 q2 hPx hvx hfx;obtain⟨⟨E,f1,f2⟩,er⟩:∃r,r=aA (bK c (k:Int)) (k:Int) x:=⟨_,rfl⟩;have HAN:Hid (aO c L (k+1)=bY (bY (bY (aO c L k) (k:Int) 1 f1) (k:Int) 2 f2) (k:Int) 3 x.none):=by
   show _=_;rw[gS];unfold kO;rw[exa,<-er]
  have HST:Hid (∀wx,bl wr wx->Calls pG 59 #[pv V F s c cap,I Y (k:Int),xv x vs vc fs fc] wx λe w'=>(∃es ec,e=Rt (Tu #[U es E.length ec,Bb f1,Bb f2]))/\bl wx w'):=λwx hb=>by
   have b:=HB2.out.trans (BR.mono HB2.out.size);have h:=wD (λ_=>True) V F s c cap (k:Int) x vs vc fs fc wx (HC.out.below (b.trans (hb.mono b.size)) (lR _)) (λw2 h2 hz=>(hPx.call hb).same (λb hb=>h2 b trivial hb) hz) H0.out hckx aa aa hvx hfx;rw[<-er] at h;refine h.mono ?_;rintro e w' ⟨⟨es,ec,rfl,-⟩,hb'⟩;exact⟨⟨es,ec,rfl⟩,hb'⟩
  have HKZ:Hid (∀wx,bl wr wx->(wx.cell? ⟨w.heap.size,0,nO⟩=sO (I Y V)/\wx.cell? ⟨w.heap.size,1,nO⟩=sO (I Y F)/\wx.cell? ⟨w.heap.size,2,nO⟩=sO (U s c.length cap))/\(wx.cell? ⟨pb,k * 3,nO⟩=sO (Bb x.none)/\wx.cell? ⟨pb,k * 3+1,nO⟩=sO (U vs x.vq.length vc)/\wx.cell? ⟨pb,k * 3+2,nO⟩=sO (U fs x.fq.length fc))):=λwx hb=>by
   have q:=λj=>hb.cell (p:=⟨pb,j,nO⟩) (by simp only;exact zpb);exact⟨(PR.call hb).1,(q _).trans q0,(q _).trans q1,(q _).trans q2⟩
  have HNN:Hid (∀wx,bl w2 wx->wx.cell? ⟨pb,k * 3,nO⟩=sO (Bb x.none)):=λwx hb=>by
   obtain⟨_,_,els,_,vs',vc',fs',fc',⟨h0,_⟩,_⟩:=HX.out.below hb (lR _) k hxl;cases els;rw[Nat.zero_add,<-ex] at h0;exact h0
  have hlA:(aO c L k).length<=200:=by have:=fS (c:=c) (L:=L) (k:=k);omega
  have B34:bl wr wr.drew:=(bR _ _).drew;have n0:(0:Int)<=(k:Int):=aa;have n1:(k:Int) < (c.length:Int):=aa;have n2:(k:Int) < ((c.length+1:Nat):Int):=aa;have n3:(k:Int) < (c.length:Int)+1:=aa;clear er exa hckx hPx hvx hfx q0 q1 q2 ex;obtain⟨A,eA⟩:∃A,A=aO c L k:=⟨_,rfl⟩;rw[<-eA] at HO HAN hlA |-;clear eA;go_upto_region 6 with fail
  refine aD (S:=(λwx=>(wx.cell? ⟨w.heap.size,0,nO⟩=sO (I Y V)/\wx.cell? ⟨w.heap.size,1,nO⟩=sO (I Y F)/\wx.cell? ⟨w.heap.size,2,nO⟩=sO (U s c.length cap))/\(wx.cell? ⟨pb,k * 3,nO⟩=sO (Bb x.none)/\wx.cell? ⟨pb,k * 3+1,nO⟩=sO (U vs x.vq.length vc)/\wx.cell? ⟨pb,k * 3+2,nO⟩=sO (U fs x.fq.length fc)))) [] ag (HKZ.out _ B34) (λhHeld=> ?_);generalize wr.drew=w4 at *;refine vZ 0 ?_ ?_;refine vZ 1 ?_ ?_;refine vZ 2 ?_ ?_;refine vZ 3 ?_ ?_;refine vZ 4 ?_ ?_;refine vZ 5 ?_ ?_;refine aB (i:=6) rfl ag (λK hK=> ?_);go_simp;go_at_call 59;refine(HST.out w4 B34).mono ?_;rintro e w5 ⟨⟨es,ec,rfl⟩,hb5⟩;have B5:=B34.trans (hb5.mono B34.size);clear hb5;go_wp2_with fail;refine hK.out _ _ (HKZ.out _ B5) (λhHeld=> ?_);clear hK K;refine sm ?_;refine vZ 7 ?_ ?_;refine vZ 8 ?_ ?_;refine vZ 9 ?_ ?_;refine vZ 10 ?_ ?_;refine vZ 11 ?_ ?_;refine vZ 12 ?_ ?_;refine vZ 13 ?_ ?_;refine aC ag ?_ _;have HO5:Hid (w5.ownsRow w2.heap.size 62 2 (U va A.length vcp) A.length (alC A)):=ci HO.out (λk hk=>B5.block k (HO.out.lt k hk).2);have BR5:=BR.trans (B5.mono BR.size);clear hHeld HKZ HST B34 B5 BR HO PR p0 p1 p2 pz;have HO:=HO5;have BR:=BR5;clear HO5 BR5;go_upto_if 33 with fail
  generalize w5=wq at *;clear w5;go_cut [5] (λt5 wc=>∃(ua:oA) (ucp:Nat),t5=U ua (bY A (k:Int) 1 f1).length ucp/\Hid (wc.ownsRow w2.heap.size 62 2 (U ua (bY A (k:Int) 1 f1).length ucp) (bY A (k:Int) 1 f1).length (alC (bY A (k:Int) 1 f1)))/\bl w2 wc)
  case first=>
   rcases j0 f1 with e|e
   ·refine wp_cond_split (congrArg j2 e) (λ_=> ?_) (λh=>aX)
    have HE:=ae e;clear e;have S4:=HO.out.kept (j5 wq (Cc #[I Y (k:Int),I Y 1] 62) nO) (by cases e:(Value.slice va A.length vcp).ownBlock with|none=>exact .inl rfl|some q=>exact .inr ah);have zB:=BR.size;go_wp2_with (at_builtin;refine aZ _ rfl _ _ 55 rfl w2.heap.size 62 ti (Ag #[I Y 0,I Y 0]) 2 16 Tryz.underlying55 hi hz0 hz1 hz2 rfl aj _ _ _ rfl S4 (sO ⟨wq.heap.size,0,nO⟩) 1 1 [I Y (k:Int),I Y 1] rfl rfl (λh=>aX) ?q12 ?q13 ?q14 ?q15 ?q16 ?_);(try case q12=>exact gT wq 62 [I Y (k:Int),I Y 1]);(try case q13=>first|exact⟨rfl,rfl⟩|(intro u hu;simp at hu;rcases hu with rfl|rfl<;>rfl));(try case q14=>first|(unfold maxLen;omega)|omega);(try case q15=>omega);(try case q16=>first|(rw[zA];omega)|omega);exact sF
   ·refine wp_cond_split (congrArg j2 e) (λh=>aX) (λ_=> ?_)
    have HE:=ae e;clear e;go_wp2_with fail;go_meet;rw[HE.out];exact⟨_,_,rfl,HO.out,BR⟩
  clear HO BR;obtain⟨va',vcp',rfl,HO',BR'⟩:=hcut;obtain⟨A1,eA1⟩:∃q,q=bY A (k:Int) 1 f1:=⟨_,rfl⟩;rw[<-eA1] at HO' |-;have HA1:=ae eA1;have hlA1:A1.length<=A.length+1:=by rw[eA1];exact gi
  clear eA1;have HO:=HO';have BR:=BR';clear HO' BR';generalize va'=va at *;generalize vcp'=vcp at *;clear va' vcp';go_upto_if 39 with fail
  generalize wc=wq at *;clear wc;go_cut [5] (λt5 wc=>∃(ua:oA) (ucp:Nat),t5=U ua (bY A1 (k:Int) 2 f2).length ucp/\Hid (wc.ownsRow w2.heap.size 62 2 (U ua (bY A1 (k:Int) 2 f2).length ucp) (bY A1 (k:Int) 2 f2).length (alC (bY A1 (k:Int) 2 f2)))/\bl w2 wc)
  case first=>
   rcases j0 f2 with e|e
   ·refine wp_cond_split (congrArg j2 e) (λ_=> ?_) (λh=>aX)
    have HE:=ae e;clear e;have S4:=HO.out.kept (j5 wq (Cc #[I Y (k:Int),I Y 2] 62) nO) (by cases e:(Value.slice va A1.length vcp).ownBlock with|none=>exact .inl rfl|some q=>exact .inr ah);have zB:=BR.size;go_wp2_with (at_builtin;refine aZ _ rfl _ _ 55 rfl w2.heap.size 62 ti (Ag #[I Y 0,I Y 0]) 2 16 Tryz.underlying55 hi hz0 hz1 hz2 rfl aj _ _ _ rfl S4 (sO ⟨wq.heap.size,0,nO⟩) 1 1 [I Y (k:Int),I Y 2] rfl rfl (λh=>aX) ?q22 ?q23 ?q24 ?q25 ?q26 ?_);(try case q22=>exact gT wq 62 [I Y (k:Int),I Y 2]);(try case q23=>first|exact⟨rfl,rfl⟩|(intro u hu;simp at hu;rcases hu with rfl|rfl<;>rfl));(try case q24=>first|(unfold maxLen;omega)|omega);(try case q25=>omega);(try case q26=>first|(rw[zA];omega)|omega);exact sF
   ·refine wp_cond_split (congrArg j2 e) (λh=>aX) (λ_=> ?_)
    have HE:=ae e;clear e;go_wp2_with fail;go_meet;rw[HE.out];exact⟨_,_,rfl,HO.out,BR⟩
  clear HO BR;obtain⟨va',vcp',rfl,HO',BR'⟩:=hcut;obtain⟨A2,eA2⟩:∃q,q=bY A1 (k:Int) 2 f2:=⟨_,rfl⟩;rw[<-eA2] at HO' |-;have HA2:=ae eA2;have hlA2:A2.length<=A1.length+1:=by rw[eA2];exact gi
  clear eA2;have HO:=HO';have BR:=BR';clear HO' BR';generalize va'=va at *;generalize vcp'=vcp at *;clear va' vcp';have q0:=HNN.out wc BR;go_upto_if 49 with fail
  generalize wc=wq at *;clear wc;have HFN:Hid (aO c L (k+1)=bY A2 (k:Int) 3 x.none):=by show _=_;rw[HAN.out,HA2.out,HA1.out]
  clear HAN HA1 HA2 HNN q0;rcases j0 x.none with e|e
  ·refine wp_cond_split (congrArg j2 e) (λ_=> ?_) (λh=>aX)
   rw[e] at HFN;clear e;have S4:=HO.out.kept (j5 wq (Cc #[I Y (k:Int),I Y 3] 62) nO) (by cases e:(Value.slice va A2.length vcp).ownBlock with|none=>exact .inl rfl|some q=>exact .inr ah);have zB:=BR.size;go_wp2_with (at_builtin;refine aZ _ rfl _ _ 55 rfl w2.heap.size 62 ti (Ag #[I Y 0,I Y 0]) 2 16 Tryz.underlying55 hi hz0 hz1 hz2 rfl aj _ _ _ rfl S4 (sO ⟨wq.heap.size,0,nO⟩) 1 1 [I Y (k:Int),I Y 3] rfl rfl (λh=>aX) ?q32 ?q33 ?q34 ?q35 ?q36 ?_);(try case q32=>exact gT wq 62 [I Y (k:Int),I Y 3]);(try case q33=>first|exact⟨rfl,rfl⟩|(intro u hu;simp at hu;rcases hu with rfl|rfl<;>rfl));(try case q34=>first|(unfold maxLen;omega)|omega);(try case q35=>omega);(try case q36=>first|(rw[zA];omega)|omega);intro v' w9 hown hgrow hat;have HN:=ae (yP HO.out BR zB hown hgrow);clear hown hgrow hat S4;obtain⟨a9,c9,e9⟩:=y6 HN.out.1;subst e9;rw[<-HFN.out] at HN |-;clear HFN;go_wp2;go_roundw
   case rel=>exact⟨k+1,a9,c9,aa,aJ,rfl,HN.out.1,HN.out.2⟩
   case measure=>simp[intOf];omega
  ·refine wp_cond_split (congrArg j2 e) (λh=>aX) (λ_=> ?_)
   rw[e] at HFN;clear e;have HFM:Hid (aO c L (k+1)=A2):=HFN.out;clear HFN;rw[<-HFM.out] at HO |-;clear HFM;go_wp2;go_roundw
   case rel=>exact⟨k+1,va,vcp,aa,aJ,rfl,HO.out,BR⟩
   case measure=>simp[intOf];omega
def mu (s:ByteArray)(e:Ending):Prop:=(4000 < s.size/\e=Rt (Tu #[.string ⟨#[]⟩,I Y 2]))\/(s.size<=4000/\(bh s).2.2≠0/\e=Rt (Tu #[.string (DP (bh s).2.1),I Y 0]))\/(s.size<=4000/\(bh s).2.2=0/\aw (bh s).1.1 (bh s).1.2.1 (bh s).1.2.2=0/\∃m,SolvedAt (bh s).1.1 (bh s).1.2.1 (bh s).1.2.2 m/\e=Rt (Tu #[.string (dn (aO (bh s).1.2.2 (aI (bh s).1.1 (bh s).1.2.1 (bh s).1.2.2 m) (bh s).1.2.2.length)),I Y 0]))
theorem ww {s:ByteArray}(hs:s.size<=4000)(h:(bh s).2.2=0):aw (bh s).1.1 (bh s).1.2.1 (bh s).1.2.2=0:=by
 unfold bh at h |-;rw[if_neg aa] at h |-;split at h
 ·cases h
 ·rename_i V F c _
  by_cases hk:aw V F c=0
  ·simp only[hk,if_true]
  ·simp only[hk,if_false] at h
theorem Eu (s:ByteArray)(w:World)(hl:lA (bh s).2.1)(ht:Tab w)(hm:Cap w)(hE:ErrS w):
  Calls pG 25 #[.string s] w λe w'=>mu s e/\bl w w':=by
 by_cases hs:4000 < s.size
 ·have HR:Hid (mu s (Rt (Tu #[.string ⟨#[]⟩,I Y 2]))):=.inl ⟨hs,rfl⟩
  have n1:(4000:Int) < (s.size:Int):=aa;clear hs;go_enter Tryz.func25,Tryz.ntmps25;go_wp2;refine bodyPost_ret (v:=Tu #[.string ⟨#[]⟩,I Y 2]) uW rfl ?_;exact⟨HR.out,bR _ _⟩
 have n1:¬(4000:Int) < (s.size:Int):=aa;have HP:=ae (Gl s w ht hm hE);have HRE:Hid ((bh s).2.2≠0->mu s (Rt (Tu #[.string (DP (bh s).2.1),I Y 0]))):=λh=>.inr (.inl ⟨by omega,h,rfl⟩);have HCK:Hid ((bh s).2.2=0->aw (bh s).1.1 (bh s).1.2.1 (bh s).1.2.2=0):=ww aa;have HRO:Hid ((bh s).2.2=0->∀m,SolvedAt (bh s).1.1 (bh s).1.2.1 (bh s).1.2.2 m->mu s (Rt (Tu #[.string (dn (aO (bh s).1.2.2 (aI (bh s).1.1 (bh s).1.2.1 (bh s).1.2.2 m) (bh s).1.2.2.length)),I Y 0]))):=λh m hm=>.inr (.inr ⟨aa,h,ww aa h,m,hm,rfl⟩);clear hs;generalize mu s=RA at *;generalize (bh s).1.1=V at *;generalize (bh s).1.2.1=F at *;generalize (bh s).1.2.2=c at *;generalize (bh s).2.1=ln at *;generalize (bh s).2.2=er at *;go_enter Tryz.func25,Tryz.ntmps25;go_wp2_with fail;refine HP.out.mono ?_;rintro e w1 ⟨v,rfl,hown,hb1⟩;obtain⟨sa,sc,rfl,hc1⟩:=it hown;clear HP hown;have hba:Below w1.heap.size w1 (w1.alloc (Cc #[I Y V,I Y F,U sa c.length sc] 24)):=ai;have X2:Cells (w1.alloc (Cc #[I Y V,I Y F,U sa c.length sc] 24)) w1.heap.size [I Y V,I Y F,U sa c.length sc]:=Cells.new w1 _ [_,_,_];have B2:=hb1.trans (hba.mono hb1.size);have C2:=hc1.call hba;clear hc1 hba;go_upto_region 4 with fail
 generalize w1.alloc (Cc #[I Y V,I Y F,U sa c.length sc] 24)=w2 at *;by_cases he:er=0;rotate_left
 ·have f1:(er !=0)=true:=by simpa using he
  have HR:=ae (HRE.out he);clear he HRE HRO HCK;go_wp2_with fail;refine(vV ln w2 hl (ht.below B2)).mono ?_;rintro e w3 ⟨rfl,hb3⟩;have B3:=B2.trans (hb3.mono B2.size);go_wp2;refine bodyPost_ret (v:=Tu #[.string (DP ln),I Y 0]) uW rfl ?_;exact⟨HR.out,B3⟩
 have h0:=HCK.out he;have HR:=ae (HRO.out he);subst he;clear HRE HRO HCK;have x0:=X2.1 0 _ rfl;have x1:=X2.1 1 _ rfl;have x2:=X2.1 2 _ rfl;have HAL:=ae (iN V F sa c sc w2 C2);have h60:=(bI h0).2.2;go_wp2_with fail;refine HAL.out.mono ?_;rintro e w3 ⟨hans,hb3⟩;clear HAL x0 x1 x2 X2 C2;have B3:=B2.trans (hb3.mono B2.size);clear B2 hb3;rcases hans with⟨hx,-⟩|⟨-,m,a,ac,hsv,rfl,hO⟩
 ·exact absurd h0 hx
 have HRR:=ae (HR.out m hsv);have HFI:Hid (∀q∈aO c (aI V F c m) c.length,lA q.1):=λq hq=>by have:=n7 hq;exact⟨by omega,by omega⟩
 have HAS:=ae (iU hO);have hll:(aO c (aI V F c m) c.length).length<=180:=by have:=fS (c:=c) (L:=aI V F c m) (k:=c.length);omega
 clear hsv hO HR h0;generalize aO c (aI V F c m) c.length=A at *;have HLE:Hid (∀k,k<=A.length->(dn (A.take k)).size<=40 * k):=λk hk=>ot HFI.out hk;have HTB:=ae (ht.below B3);clear ht hm hE;have hb4:Below w3.heap.size w3 (w3.alloc (Cc #[Pp nO,U nO 0 0] 122)):=ai;have F4:Lib.IsBuilder 122 5 w3.heap.size w3.heap.size (Lib.strCells (dn (A.take 0))) (w3.alloc (Cc #[Pp nO,U nO 0 0] 122)):=.inl ⟨lR _,_,(MapKept.heap_alloc w3 _).1,⟨rfl,.inl ⟨rfl,rfl⟩⟩,(by intro h;cases h)⟩;go_upto_region 8 with fail
 generalize w3.alloc (Cc #[Pp nO,U nO 0 0] 122)=w4 at *;go_wp2;go_loopw [32] (λi wr=>∃k:Nat,k<=A.length/\i=I Y k/\Hid (Lib.IsBuilder 122 5 w3.heap.size w3.heap.size (Lib.strCells (dn (A.take k))) wr)/\bl w3 wr) (λi _=>A.length - (intOf i).toNat)
 case atStart=>exact⟨0,j1 _,rfl,F4,hb4⟩
 case round=>
  clear F4 hb4;obtain⟨k,hk,rfl,HB,BR⟩:=hrel;have s1:=BR.size;by_cases hlt:k < A.length;rotate_left
  ·have n2:¬(k:Int) < (A.length:Int):=by omega
   have ek:A.take k=A:=j6 aa;have hS:Calls pG 64 #[Pp (sO ⟨w3.heap.size,0,nO⟩)] wr λe w'=>e=Rt (.string (dn A))/\Below w3.heap.size wr w':=by
    have h:=HB.out;rw[ek] at h;exact Tryz.Builder_String_any w3.heap.size w3.heap.size _ wr h s1
   have HS:=ae hS;clear hS ek HB;go_wp2_with fail;refine HS.out.mono ?_;rintro e w7 ⟨rfl,hb7⟩;go_wp2;refine bodyPost_ret (v:=Tu #[.string (dn A),I Y 0]) uW rfl ?_;exact⟨HRR.out,B3.trans ((BR.trans hb7).mono B3.size)⟩
  have n0:(0:Int)<=(k:Int):=aa;have n2:(k:Int) < (A.length:Int):=aa;obtain⟨b,rfl,hz,c0,c1⟩:=HAS.out.below BR k hlt;have hfa:=HFI.out _ (gM hlt);have HNX:=ae (oP hlt);have hsz:(Lib.strCells (dn (A.take k))).length+(iW A[k]).size<=140737488355328:=by
   have h1:=HLE.out k hk;have h2:=rH hfa;rw[Lib.strCells_length];omega
  obtain⟨⟨a1,d1⟩,ea⟩:∃q,q=A[k]:=⟨_,rfl⟩;rw[<-ea] at c0 c1 hfa HNX hsz;clear ea HAS;have hba:Below wr.heap.size wr (wr.alloc (Cc #[I Y a1,I Y d1] 62)):=ai;have X5:Cells (wr.alloc (Cc #[I Y a1,I Y d1] 62)) wr.heap.size [I Y a1,I Y d1]:=Cells.new wr _ [_,_];have B5:=BR.trans (hba.mono BR.size);have HB5:Hid (Lib.IsBuilder 122 5 w3.heap.size w3.heap.size (Lib.strCells (dn (A.take k))) (wr.alloc (Cc #[I Y a1,I Y d1] 62))):=HB.out.imp (λh=>gQ h hba) (λh=>gQ h hba);clear HB hba BR;go_upto_region 11 with fail
  generalize wr.alloc (Cc #[I Y a1,I Y d1] 62)=w5 at *;clear c0 c1;have x0:=X5.1 0 _ rfl;have x1:=X5.1 1 _ rfl;go_wp2_with fail;refine(vp a1 d1 w5 hfa (HTB.out.below B5)).mono ?_;rintro e w6 ⟨rfl,hb6⟩;have HB6:Hid (Lib.IsBuilder 122 5 w3.heap.size w3.heap.size (Lib.strCells (dn (A.take k))) w6):=HB5.out.imp (λh=>gQ h hb6) (λh=>gQ h hb6);have B6:=B5.trans (hb6.mono B5.size);clear HB5 hb6 X5 x0 x1 B5;have HWS:=ae (un w3.heap.size w3.heap.size _ (iW (a1,d1)) w6 HB6.out hsz B6.size);clear HB6 hsz;generalize iW (a1,d1)=ab at *;go_wp2_with fail;refine HWS.out.mono ?_;rintro e w7 ⟨rfl,ha7,hb7⟩;have HB7:Hid (Lib.IsBuilder 122 5 w3.heap.size w3.heap.size (Lib.strCells (dn (A.take (k+1)))) w7):=by
   show Lib.IsBuilder _ _ _ _ _ _;rw[HNX.out,sA];exact .inr ha7
  clear ha7 HWS;go_wp2;go_roundw
  case rel=>exact⟨k+1,aa,aJ,HB7.out,B6.trans hb7⟩
  case measure=>simp[intOf];omega
def addC:lI:=[⟨5,0,0,0,0,0⟩,⟨18,0,0,0,0,0⟩]
def expC:lI:=[⟨17,0,0,0,0,0⟩]
theorem Fb:SolvedAt 1 0 addC 0:=⟨λk hk=>absurd hk aa,fF⟩
theorem Fo:SolvedAt 1 0 expC 0:=⟨λk hk=>absurd hk aa,fF⟩
theorem DU:aO addC (aI 1 0 addC 0) addC.length=[(0,1),(1,3)]:=fF
theorem Fp:aO expC (aI 1 0 expC 0) expC.length=[(0,2)]:=fF
theorem Gy:aO smallC (aI 1 0 smallC 1) smallC.length=[]:=fF
theorem add_ck:aw 1 0 addC=0/\aw 1 0 expC=0:=fF
def Ej:ByteArray:=⟨#[118,97,114,115,32,49,32,102,105,101,108,100,115,32,48,10,101,120,112,101,99,116,32,48,10]⟩
theorem oa:bh Ej=((1,0,expC),0,0):=ag
theorem Kz:dn [(0,2)]=⟨#[48,32,102,97,105,108,101,100,10]⟩:=fF
theorem Kd (b:Nat)(w:World)(hc:CodeAt w (sO ⟨b,0,nO⟩) addC):Calls pG 20 #[pv 1 0 (sO ⟨b,0,nO⟩) addC 2] w λe w'=>(∃q ac,e=Rt (Tu #[U (sO ⟨q,0,nO⟩) 2 ac,I Y 0])/\q < w'.heap.size/\w'.cell? ⟨q,0,nO⟩=sO (I Y 0)/\w'.cell? ⟨q,1,nO⟩=sO (I Y 1)/\w'.cell? ⟨q,2,nO⟩=sO (I Y 1)/\w'.cell? ⟨q,3,nO⟩=sO (I Y 3))/\bl w w':=by
 refine(iN 1 0 (sO ⟨b,0,nO⟩) addC 2 w hc).mono ?_;rintro e w' ⟨h,hb⟩;refine⟨?_,hb⟩;rcases h with⟨h,_⟩|⟨_,m,a,ac,hs,rfl,hO⟩
 ·exact absurd add_ck.1 h
 ·obtain rfl:=hs.one Fb
  rw[DU] at hO |-;have h:=iU (A:=[(0,1),(1,3)]) hO;obtain⟨q,rfl,hz,c0,c1⟩:=h 0 ah;obtain⟨q2,e2,_,c2,c3⟩:=h 1 ah;cases e2;exact⟨q,ac,rfl,hz,c0,c1,c2,c3⟩
theorem Ht (b:Nat)(w:World)(hc:CodeAt w (sO ⟨b,0,nO⟩) smallC):Calls pG 21 #[pv 1 0 (sO ⟨b,0,nO⟩) smallC 2] w λe w'=>e=Rt (Tu #[Bb true,I Y 0])/\bl w w':=by
 refine(yW 1 0 (sO ⟨b,0,nO⟩) smallC 2 w hc).mono ?_;rintro e w' ⟨h,hb⟩;refine⟨?_,hb⟩;rcases h with⟨h,_⟩|⟨_,m,hs,rfl⟩
 ·exact absurd EC h
 ·obtain rfl:=hs.one y9
  rw[Gy];rfl
theorem Ip (w:World)(ht:Tab w)(hm:Cap w)(hE:ErrS w):Calls pG 25 #[.string Ej] w λe w'=>e=Rt (Tu #[.string ⟨#[48,32,102,97,105,108,101,100,10]⟩,I Y 0])/\bl w w':=by
 refine(Eu Ej w (by rw[oa];exact⟨by decide,by decide⟩) ht hm hE).mono ?_;rintro e w' ⟨h,hb⟩;refine⟨?_,hb⟩;unfold mu at h;rw[oa] at h;rcases h with⟨h,_⟩|⟨_,h,_⟩|⟨_,_,_,m,hs,rfl⟩
 ·exact absurd h fF
 ·exact absurd rfl h
 ·obtain rfl:=hs.one Fo
  simp only;rw[Fp,Kz]
theorem mj (w:World)(ht:Tab w)(hm:Cap w)(hE:ErrS w):Calls pG 24 #[] w λe w'=>e=Rt (Bb true)/\bl w w':=by
 have B2:Below w.heap.size w ((w.alloc (Cc #[I Y 5,I Y 0,I Y 0,I Y 0,I Y 0,I Y 0,I Y 18,I Y 0,I Y 0,I Y 0,I Y 0,I Y 0] 100)).alloc (Cc #[I Y 1,I Y 0,U (sO ⟨w.heap.size,0,nO⟩) 2 2] 24)):=ai;have P2:Cells ((w.alloc (Cc #[I Y 5,I Y 0,I Y 0,I Y 0,I Y 0,I Y 0,I Y 18,I Y 0,I Y 0,I Y 0,I Y 0,I Y 0] 100)).alloc (Cc #[I Y 1,I Y 0,U (sO ⟨w.heap.size,0,nO⟩) 2 2] 24)) (w.heap.size+1) [I Y 1,I Y 0,U (sO ⟨w.heap.size,0,nO⟩) 2 2]:=by
  have h:=Cells.new (w.alloc (Cc #[I Y 5,I Y 0,I Y 0,I Y 0,I Y 0,I Y 0,I Y 18,I Y 0,I Y 0,I Y 0,I Y 0,I Y 0] 100)) 24 [I Y 1,I Y 0,U (sO ⟨w.heap.size,0,nO⟩) 2 2];rw[zA] at h;exact h
 have C2:CodeAt ((w.alloc (Cc #[I Y 5,I Y 0,I Y 0,I Y 0,I Y 0,I Y 0,I Y 18,I Y 0,I Y 0,I Y 0,I Y 0,I Y 0] 100)).alloc (Cc #[I Y 1,I Y 0,U (sO ⟨w.heap.size,0,nO⟩) 2 2] 24)) (sO ⟨w.heap.size,0,nO⟩) addC:=by
  have h:Cells ((w.alloc (Cc #[I Y 5,I Y 0,I Y 0,I Y 0,I Y 0,I Y 0,I Y 18,I Y 0,I Y 0,I Y 0,I Y 0,I Y 0] 100)).alloc (Cc #[I Y 1,I Y 0,U (sO ⟨w.heap.size,0,nO⟩) 2 2] 24)) w.heap.size [I Y 5,I Y 0,I Y 0,I Y 0,I Y 0,I Y 0,I Y 18,I Y 0,I Y 0,I Y 0,I Y 0,I Y 0]:=(Cells.new w 100 [I Y 5,I Y 0,I Y 0,I Y 0,I Y 0,I Y 0,I Y 18,I Y 0,I Y 0,I Y 0,I Y 0,I Y 0]).call ai;refine .inr ⟨_,_,rfl,h.2.1,λk hk=> ?_⟩
  match k,hk with
  |0,_=>exact⟨h.1 0 _ rfl,h.1 1 _ rfl,h.1 2 _ rfl,h.1 3 _ rfl,h.1 4 _ rfl,h.1 5 _ rfl⟩
  |1,_=>exact⟨h.1 6 _ rfl,h.1 7 _ rfl,h.1 8 _ rfl,h.1 9 _ rfl,h.1 10 _ rfl,h.1 11 _ rfl⟩
  |k+2,h=>exact absurd h (by simp[addC])
 have HRP:Hid (∀wx,bl w wx->Calls pG 25 #[.string ⟨#[118,97,114,115,32,49,32,102,105,101,108,100,115,32,48,10,101,120,112,101,99,116,32,48,10]⟩] wx λe w'=>e=Rt (Tu #[.string ⟨#[48,32,102,97,105,108,101,100,10]⟩,I Y 0])/\bl wx w'):=λwx hb=>Ip wx (ht.below hb) (hm.below hb) (hE.below hb);clear ht hm hE;go_enter Tryz.func24,Tryz.ntmps24;go_upto_region 2 with fail
 generalize ((w.alloc (Cc #[I Y 5,I Y 0,I Y 0,I Y 0,I Y 0,I Y 0,I Y 18,I Y 0,I Y 0,I Y 0,I Y 0,I Y 0] 100)).alloc (Cc #[I Y 1,I Y 0,U (sO ⟨w.heap.size,0,nO⟩) 2 2] 24))=w2 at *;have p0:=P2.1 0 _ rfl;have p1:=P2.1 1 _ rfl;have p2:=P2.1 2 _ rfl;go_wp2_with fail;refine(Kd _ _ C2).mono ?_;rintro e w3 ⟨⟨q,ac,rfl,hz,c0,c1,c2,c3⟩,hb3⟩;have B3:=B2.trans (hb3.mono B2.size);clear p0 p1 p2 P2 C2 B2 hb3;go_wp2_with fail;refine(FN _).mono ?_;rintro e w4 ⟨b4,rfl,C4,hb4⟩;go_wp2_with fail;refine(Ht _ _ C4).mono ?_;rintro e w5 ⟨rfl,hb5⟩;have b35:=hb4.trans (hb5.mono hb4.size);have B5:=B3.trans (b35.mono B3.size);go_wp2_with fail;refine(HRP.out w5 B5).mono ?_;rintro e w6 ⟨rfl,hb6⟩;have b36:=b35.trans (hb6.mono b35.size);have B6:=B3.trans (b36.mono B3.size);have d0:w6.cell? ⟨q,0,nO⟩=sO (I Y 0):=by rw[b36.cell (by simp only;exact hz)];exact c0
 have d1:w6.cell? ⟨q,1,nO⟩=sO (I Y 1):=by rw[b36.cell (by simp only;exact hz)];exact c1
 have d2:w6.cell? ⟨q,2,nO⟩=sO (I Y 1):=by rw[b36.cell (by simp only;exact hz)];exact c2
 have d3:w6.cell? ⟨q,3,nO⟩=sO (I Y 3):=by rw[b36.cell (by simp only;exact hz)];exact c3
 clear c0 c1 c2 c3 HRP C4 hb4 hb5 hb6 b35 b36 B5 B3;go_wp2;refine bodyPost_ret (v:=Bb true) ag rfl ⟨rfl,B6⟩
theorem AlsAt.call {W W':World}{a:oA}{A:List (Int×Int)}(h:AlsAt W a A)(hb:bl W W'):AlsAt W' a A:=h.below hb
theorem FO (A:List (Int×Int))(k:Nat)(h:k < A.length):(!(A.take (k+1)).any λx=>x.2 !=3)=((!(A.take k).any λx=>x.2 !=3)&&A[k].2==3):=by
 rw[List.take_succ_eq_append_getElem h,List.any_append];cases e1:(A.take k).any λx=>x.2 !=3
 ·simp only[List.any_cons,List.any_nil,Bool.or_false,Bool.false_or,Bool.not_false,Bool.true_and,bne,Bool.not_not]
 ·simp only[Bool.true_or,Bool.not_true,Bool.false_and]
theorem sW {p:Prop}(h:p:=by
 refine(mj w5 (HTB.out w5 B5) (HMB.out w5 B5) (HEB.out w5 B5)).mono ?_;rintro e w6 ⟨rfl,hb6⟩;have B6:=B5.trans (hb6.mono B5.size);go_wp2;go_ret;exact⟨rfl,B6⟩):p:=h
theorem vO (V F:Int)(s:oA)(c:lI)(cap:Nat)(w:World)(hc:CodeAt w s c)(ht:Tab w)(hm:Cap w)(hE:ErrS w):
  Calls pG 6 #[pv V F s c cap] w λe w'=>e=Rt (Bb true)/\bl w w':=by
 have B0:Below w.heap.size w (w.alloc (Cc #[I Y V,I Y F,U s c.length cap] 24)):=ai;have P0:Cells (w.alloc (Cc #[I Y V,I Y F,U s c.length cap] 24)) w.heap.size [I Y V,I Y F,U s c.length cap]:=Cells.new w _ [_,_,_];have HTB:=ae (λwx (hb:bl w wx)=>ht.below hb);have HMB:=ae (λwx (hb:bl w wx)=>hm.below hb);have HEB:=ae (λwx (hb:bl w wx)=>hE.below hb);have HCK:=ae (λwx (hb:bl w wx)=>sh V F s cap c wx (hc.below hb (lR _)));have HAL:=ae (λwx (hb:bl w wx)=>iN V F s c cap wx (hc.below hb (lR _)));have HSU:=ae (λwx (hb:bl w wx)=>yW V F s c cap wx (hc.below hb (lR _)));have HAO:=ae (λ(h0:aw V F c=0) m (hs:SolvedAt V F c m) wx (hb:bl w wx)=>Ad V F s c cap m wx (hc.below hb (lR _)) h0 hs);clear hc ht hm hE;go_enter Tryz.func6,Tryz.ntmps6;go_upto_region 1 with fail
 generalize w.alloc (Cc #[I Y V,I Y F,U s c.length cap] 24)=w0 at *;have p0:=P0.1 0 _ rfl;have p1:=P0.1 1 _ rfl;have p2:=P0.1 2 _ rfl;go_wp2_with fail;refine(HAL.out w0 B0).mono ?_;rintro e w1 ⟨hS,hb1⟩;have B1:=B0.trans (hb1.mono B0.size);have P1:=P0.call hb1;clear B0 hb1 P0 p0 p1 p2;clear HAL;rcases hS with⟨hne,rfl⟩|⟨h0,m,a,ac,hsv,rfl,hO⟩
 ·have HSE:Hid (∀wx,bl w wx->Calls pG 21 #[pv V F s c cap] wx λe w'=>e=Rt (Tu #[Bb false,I Y (aw V F c)])/\bl wx w'):=λwx hb=>by
   refine(HSU.out wx hb).mono ?_;rintro e w' ⟨⟨_,rfl⟩|⟨h,_⟩,hb'⟩
   ·exact⟨rfl,hb'⟩
   ·exact absurd h hne
  clear HSU HAO;generalize aw V F c=u at *;have f1:(u==0)=false:=by simpa using hne
  clear hne;have p0:=P1.1 0 _ rfl;have p1:=P1.1 1 _ rfl;have p2:=P1.1 2 _ rfl;go_wp2_with fail;refine(HSE.out w1 B1).mono ?_;rintro e w2 ⟨rfl,hb2⟩;have B2:=B1.trans (hb2.mono B1.size);have P2:=P1.call hb2;clear B1 hb2 P1 p0 p1 p2;have p0:=P2.1 0 _ rfl;have p1:=P2.1 1 _ rfl;have p2:=P2.1 2 _ rfl;go_wp2_with fail;refine(HCK.out w2 B2).mono ?_;rintro e w3 ⟨rfl,hb3⟩;have B3:=B2.trans (hb3.mono B2.size);have P3:=P2.call hb3;clear B2 hb3 P2 p0 p1 p2;clear HCK HSE;go_wp2;go_loopw [9,10] (λq i wr=>i=I Y 0/\q=Bb false/\bl w wr) (λ_ _ _=>0)
  case atStart=>exact⟨rfl,rfl,B3⟩
  case round=>
   clear B3 P3;obtain⟨rfl,rfl,B3⟩:=hrel;generalize wr=w3' at *;clear wr;have w3:=w3';generalize w3'=w4 at *;have B4:=B3;clear B3;go_wp2_with fail;refine(mj w4 (HTB.out w4 B4) (HMB.out w4 B4) (HEB.out w4 B4)).mono ?_;rintro e w5 ⟨rfl,hb5⟩;have B5:=B4.trans (hb5.mono B4.size);go_wp2;go_ret;exact⟨rfl,B5⟩
 have HSE:Hid (∀wx,bl w wx->Calls pG 21 #[pv V F s c cap] wx λe w'=>e=Rt (Tu #[Bb (!(aO c (aI V F c m) c.length).any (λx=>x.2 !=3)),I Y 0])/\bl wx w'):=λwx hb=>by
  refine(HSU.out wx hb).mono ?_;rintro e w' ⟨⟨h,_⟩|⟨_,m',hs',rfl⟩,hb'⟩
  ·exact absurd h0 h
  ·obtain rfl:=hs'.one hsv
   exact⟨rfl,hb'⟩
 have HAO1:=ae (HAO.out h0 m hsv);have HA1:=ae (iU hO);have hll:(aO c (aI V F c m) c.length).length<=180:=CH;rw[h0] at HCK;clear hO hsv HSU HAO;generalize aO c (aI V F c m) c.length=A at *;clear h0;obtain⟨sv,esv⟩:∃b,b= !A.any (λx=>x.2 !=3):=⟨_,rfl⟩;rw[<-esv] at HSE;have HSV:=ae esv;clear esv;have p0:=P1.1 0 _ rfl;have p1:=P1.1 1 _ rfl;have p2:=P1.1 2 _ rfl;go_wp2_with fail;refine(HSE.out w1 B1).mono ?_;rintro e w2 ⟨rfl,hb2⟩;have HA2:=ae (HA1.out.call hb2);have B2:=B1.trans (hb2.mono B1.size);have P2:=P1.call hb2;clear B1 hb2 P1 p0 p1 p2;have p0:=P2.1 0 _ rfl;have p1:=P2.1 1 _ rfl;have p2:=P2.1 2 _ rfl;go_wp2_with fail;refine(HCK.out w2 B2).mono ?_;rintro e w3 ⟨rfl,hb3⟩;have HA3:=ae (HA2.out.call hb3);have B3:=B2.trans (hb3.mono B2.size);have P3:=P2.call hb3;clear B2 hb3 P2 p0 p1 p2;have p0:=P3.1 0 _ rfl;have p1:=P3.1 1 _ rfl;have p2:=P3.1 2 _ rfl;go_wp2_with fail;refine(HAO1.out w3 B3).mono ?_;rintro e w4 ⟨⟨a2,ac2,rfl,hD⟩,hb4⟩;have HA4:=ae (HA3.out.call hb4);have HD4:=ae hD;have B4:=B3.trans (hb4.mono B3.size);have P4:=P3.call hb4;clear B3 hb4 P3 p0 p1 p2;clear HA1 HA2 HA3 hD HCK HSE HAO1 P4;go_wp2;go_loopw [9,10] (λq i wr=>∃(k:Nat) (sb:Bool),k<=A.length/\i=I Y k/\q=Bb sb/\Hid (sb= !(A.take k).any λx=>x.2 !=3)/\bl w4 wr) (λ_ i _=>A.length - (intOf i).toNat)
 case atStart=>exact⟨0,true,j1 _,rfl,rfl,rfl,bR _ _⟩
 case round=>
  obtain⟨k,sb,hk,rfl,rfl,HQ,BR⟩:=hrel;by_cases hlt:k < A.length;rotate_left
  ·have n1:¬(k:Int) < (A.length:Int):=by omega
   have HF:Hid (sb=sv):=by show _=_;rw[HQ.out,HSV.out,j6 (by omega)]
   obtain rfl:=HF.out;have B5:=B4.trans (BR.mono B4.size);clear HQ HSV HF B4 BR HA4 HD4;generalize wr=w5 at *;cases sb
   ·go_wp2_with fail
    exact sW
   ·go_wp2_with fail
    exact sW
  have n0:(0:Int)<=(k:Int):=aa;have n1:(k:Int) < (A.length:Int):=aa;obtain⟨b1,rfl,z1,c1,e1⟩:=HA4.out.below BR k hlt;obtain⟨b2,rfl,z2,c2,e2⟩:=HD4.out.below BR k hlt;have HNX:=ae (FO A k hlt);obtain⟨⟨a1,d1⟩,ea⟩:∃q,q=A[k]:=⟨_,rfl⟩;rw[<-ea] at c1 e1 c2 e2 HNX;clear ea;simp only at c1 e1 c2 e2 HNX;rw[<-HQ.out] at HNX;clear HQ;have BD:bl wr wr.drew:=(bR _ _).drew;have HKZ:Hid ((wr.drew.cell? ⟨b1,k * 2,nO⟩=sO (I Y a1)/\wr.drew.cell? ⟨b1,k * 2+1,nO⟩=sO (I Y d1))/\(wr.drew.cell? ⟨b2,k * 2,nO⟩=sO (I Y a1)/\wr.drew.cell? ⟨b2,k * 2+1,nO⟩=sO (I Y d1))):=⟨⟨by rw[BD.cell (by simp only;exact z1)];exact c1,by rw[BD.cell (by simp only;exact z1)];exact e1⟩,by rw[BD.cell (by simp only;exact z2)];exact c2,by rw[BD.cell (by simp only;exact z2)];exact e2⟩;have f2:wr.drew.cell? ⟨b2,k * 2+1,nO⟩=sO (I Y d1):=by rw[BD.cell (by simp only;exact z2)];exact e2
  clear c1 e1 c2 e2;go_upto_region 13 with fail
  refine aD (S:=(λwx=>(wx.cell? ⟨b1,k * 2,nO⟩=sO (I Y a1)/\wx.cell? ⟨b1,k * 2+1,nO⟩=sO (I Y d1))/\(wx.cell? ⟨b2,k * 2,nO⟩=sO (I Y a1)/\wx.cell? ⟨b2,k * 2+1,nO⟩=sO (I Y d1)))) [] ag HKZ.out (λhHeld=> ?_);refine vZ 0 ?_ ?_;refine vZ 1 ?_ ?_;refine vZ 2 ?_ ?_;refine vZ 3 ?_ ?_;refine vZ 4 ?_ ?_;refine vZ 5 ?_ ?_;refine vZ 6 ?_ ?_;refine vZ 7 ?_ ?_;refine tZ 8 (Bb false) ?_ (hy:=by(intro w hSw;(try dsimp only at hSw);first|(go_simp;done)|(go_simp;simp)));refine sm ?_;refine aC ag ?_ _;have BN:=BR.trans (BD.mono BR.size);clear BR hHeld HKZ BD;generalize wr.drew=wd at *;cases sb with
  |false=>
   have HF:Hid (false= !(A.take (k+1)).any λx=>x.2 !=3):=by show _=_;rw[HNX.out];rfl
   clear HNX f2;go_wp2;go_roundw
   case rel=>exact⟨k+1,false,aa,aJ,rfl,HF.out,BN⟩
   case measure=>simp[intOf];omega
  |true=>
   obtain⟨d3,ed3⟩:∃b,b=(d1==3):=⟨_,rfl⟩;have HF:Hid (d3= !(A.take (k+1)).any λx=>x.2 !=3):=by show _=_;rw[HNX.out,ed3];rfl
   clear HNX;go_wp2;rw[<-ed3];go_roundw
   case rel=>exact⟨k+1,d3,aa,aJ,rfl,HF.out,BN⟩
   case measure=>simp[intOf];omega
end
section
open Go.ChangeShapes Go.WideShapes Go.ChangeAt Go.RowKit
namespace alarmTells

theorem contract (H:Type)(enc:TypeId×Value->H)(W:World)(base:Nat)(args:Array Value)(ds gs:List (DataW H))(before:List MemPlace)
  (hval:∀(j:Nat) t v,Tryz.f6.params[j]? =sO t->args[j]? =sO v->Value.okWide pG W .any base t v)
  (hW:DataW.Whole enc pG Tryz.f6.params.toList Rows.alarmTellsSpec.vars false W args.toList ds gs before)(hL:laidMetH pG Rows.alarmTellsRow.laid W)(hS:W.ShapedOpen pG):
  Calls pG 6 args W λe W'=>∃v,e=Rt v/\Rows.alarmTellsSpec.post enc pG Tryz.f6 false true false false W args v W':=by
 have hlt:=hW.lt;have hW':=hW;obtain⟨p,q,hA0,hV,rfl,hfz,hnd⟩:=hW;have hA:DataW.TrodAll enc pG W 0 (λ_=>true) true Tryz.f6.params.toList args.toList ds p:=hA0;rw[Tryz.params6] at hA hval;obtain⟨v0,vs0,d0,ds0,p0,q0,e0,rfl,rfl,h0,hr0⟩:=trodAll_cons hA;obtain⟨rfl,rfl,rfl⟩:=trodAll_nil hr0;have ea:args=#[v0]:=by cases args;simp_all
 subst ea;obtain⟨rfl,rfl⟩:=trodVars_none hV;obtain⟨V,F,s,cap,c,rfl,hcap,hmax,hcode,-⟩:=yU (hval 0 24 v0 rfl rfl) h0;have hL':laidMet pG (("math/bits.deBruijn32tab",Rows.laid_math_bits_deBruijn32tab)::("math/bits.deBruijn64tab",Rows.laid_math_bits_deBruijn64tab)::("internal/strconv.uint64pow10",Rows.laid_internal_strconv_uint64pow10)::("unicode/utf8.acceptRanges",Rows.laid_unicode_utf8_acceptRanges)::("strconv.ErrRange",Rows.laid_strconv_ErrRange)::("strconv.ErrSyntax",Rows.laid_strconv_ErrSyntax)::[("unicode/utf8.first",Rows.laid_unicode_utf8_first)]) W:=hL;have hT:=Mp hL'.tail.tail;have hE:=Ld hL'.tail.tail.tail.tail.tail;have hM:Cap W:=MC hS;refine(vO V F s c cap W hcode hT hM hE).mono λe W' ⟨he,hb⟩=> ?_;subst he;refine⟨_,rfl,_,_,_,[],p0++[],[],hW',?_,?_,?_,hb.frame _,λh=>by cases h⟩
 ·exact trodAll_mk1 (shut_bool Tryz.underlying4 _)
 ·rw[Tryz.params6]
  exact trodAll_cons_mk (Below.trod (by kernel_rfl) (by kernel_rfl) (of_decide_eq_true (by kernel_rfl)) h0 hb (λx hx=>hlt x (by simp[hx]))) (rfl)
 ·rfl

theorem witness_row (os:Os){H:Type}(enc:TypeId×Value->H):
  (OpenSpec.ofChange Rows.alarmTellsSpec).preRow enc pG Tryz.f6 Rows.alarmTellsRow.domain false Rows.alarmTellsRow.laid ((iS pG os).forCall (λ_ _=>0) ⟨#[],#[Ag #[I Y 0,I Y 0,U nO 0 0]],[]⟩).memory #[Ag #[I Y 0,I Y 0,U nO 0 0]]:=by
 have hw:(DataW.whole enc pG ((iS pG os).forCall (λ_ _=>0) ⟨#[],#[Ag #[I Y 0,I Y 0,U nO 0 0]],[]⟩).memory Tryz.f6.params.toList Rows.alarmTellsSpec.vars false #[Value.agg #[I Y 0,I Y 0,U nO 0 0]].toList 8).isSome=true:=by kernel_rfl
 obtain⟨x,hx⟩:=Option.isSome_iff_exists.1 hw;exact OpenSpec.preRow_of_cond 8 hx rfl (λk hk=>by cases hk) (by kernel_rfl) (Gr os _)

theorem lifted (os:Os)(started:os.Started)(H:Type)(enc:TypeId×Value->H)(F:Stop.Interp):
  ReturnsInHanded {} Tryz.checked os 6 .any ((OpenSpec.ofChange Rows.alarmTellsSpec).preRow enc pG Tryz.f6 Rows.alarmTellsRow.domain false Rows.alarmTellsRow.laid) (((OpenSpec.ofChange Rows.alarmTellsSpec).at F).post enc pG Tryz.f6 false true false false):=by
 refine returnsInHanded_of_row (C:=Tryz.checked) (s:=OpenSpec.ofChange Rows.alarmTellsSpec) own started (by kernel_rfl) Tryz.func6
  (witness_row_atRef (enc:=enc) (C:=Tryz.checked) false (iS pG os) #[Ag #[I Y 0,I Y 0,U nO 0 0]] rfl (by kernel_rfl) (by kernel_rfl) (by kernel_rfl) (witness_row os enc)) ?_
 intro W base args ds gs before hval hW _ _ _ hL hS _;exact contract H enc W base args ds gs before hval hW hL hS

theorem and_t {a b:Bool}(h:a=true)(k:b=true):(a&&b)=true:=by rw[h,k];rfl
theorem closed:joinedFacts pG 6 Tryz.f6 (OpenSpec.ofChange Rows.alarmTellsSpec).bare Rows.alarmTellsRow=true:=by
 unfold joinedFacts;repeat' (with_reducible refine and_t ?_ ?_)
 all_goals (as_aux_lemma=>kernel_rfl)

theorem said:Rows.AlarmTellsSaid:=
 OpenClaim.holds_of_cond 6 Tryz.f6 rfl rfl rfl rfl rfl rfl rfl ⟨rfl,rfl,rfl,rfl,rfl⟩ rfl rfl rfl rfl rfl (by kernel_rfl) Tryz.func6 closed
  (of_decide_eq_true (by kernel_rfl)) (by unfold Func.isWrapper;first|(rw[if_pos (by decide+kernel)];kernel_rfl)|(rw[if_neg (by decide+kernel)];exact⟨rfl,rfl⟩))
  (λos started H enc _ F=>by rw[OpenClaim.pre_eq_preRow];exact lifted os started H enc F)

theorem plain (f:FuncId)(fn:Func)(hf:Tryz.pinned.checked.prog.funcNamed "soundings/soundingslaw.AlarmTells" =sO f)(hfn:Tryz.pinned.checked.prog.funcs[f]? =sO fn):
  true=Tryz.pinned.checked.prog.looks []/\∀(j:Nat) t,fn.params[j]? =sO t->Tryz.pinned.checked.prog.wantsStandIn t=false:=by
 obtain rfl:f=6:=j7.inj ((show Tryz.prog.funcNamed "soundings/soundingslaw.AlarmTells" =sO 6 by kernel_rfl).symm.trans hf) |>.symm;obtain rfl:fn=Tryz.f6:=(j7.inj (Tryz.func6.symm.trans hfn)).symm;refine⟨by kernel_rfl,λj t ht=> ?_⟩;rw[Tryz.params6] at ht;have hm:t=24:=by simpa using Array.mem_of_getElem? ht
 rcases hm with rfl;exact(show Tryz.prog.wantsStandIn 24=false by kernel_rfl)
end alarmTells

theorem alarmTells_holds:Rows.AlarmTellsCardSaid:=
 Claim7.holds_tied_plain_at .later [] _ _ _ _ alarmTells.said (λ_ h=>by cases h) (by kernel_rfl) (λ_ h=>by cases h) alarmTells_row_tie rfl ⟨rfl,rfl⟩ (by kernel_rfl) rfl alarmTells.plain (by kernel_rfl)
end
end Go.Proofs.YtmapdpcfanecdabGreatDoor
