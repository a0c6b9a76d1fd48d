import Derived.Test.YtmapdpcfanecdabGreatDoorR19
import Derived.Test.YtmapdpcfanecdabGreatDoorR20
import Derived.Test.YtmapdpcfanecdabGreatDoorR21
import Derived.Test.YtmapdpcfanecdabGreatDoorR22
import Derived.Test.YtmapdpcfanecdabGreatDoorR23
import Derived.Test.YtmapdpcfanecdabGreatDoorR24
import Derived.Test.YtmapdpcfanecdabGreatDoorR15
import Derived.Test.YtmapdpcfanecdabGreatDoorR16
import Derived.Test.YtmapdpcfanecdabGreatDoorR17
import Derived.Test.YtmapdpcfanecdabGreatDoorR18
import Derived.Test.YtmapdpcfanecdabGreatDoorR28
import Derived.RangeFuncBound
import Derived.RangeFuncCalls
import Derived.OwnWalkIn
import Derived.TacticsInMore
import Derived.LoopNIn
import Derived.LoopIn
open Array renaming getElem?_eq_some_iff→q7
open Bool renaming eq_false_or_eq_true→j8
open Go.Ending renaming returned→Rt
open Go.IntKind renaming i64→Y
open Go.Obj renaming cells→Cc
open Go.Proofs.Tryz renaming prog→pG
open Go.RowKit.Below renaming refl→bR
open Go.Value renaming agg→Ag,bool→Bb,bool→q6,int→I,pointer→Pp,slice→U,tuple→Tu
open Go.World renaming grownBy_alloc→x7,putObj→z8,putObj_heap_other→q8,putObj_heap_same→x5,size_alloc→j6
open Int renaming eq_ofNat_of_zero_le→j9
open List renaming append_toArray→J7,cons_append→J8,foldl_append→q9,getElem_mem→gM,length_cons→z7,length_map→x8,length_nil→J3,nil_append→q4,push_toArray→J6,range→q5,range_succ→x9,size_toArray→J0,take_of_length_le→x4,take_succ_eq_append_getElem→J9
open Nat renaming add_le_add_right→Q0,le_of_lt→z9,le_refl→lR,le_trans→lT,lt_of_lt_of_le→lL,reduceAdd→J4,reduceSub→J5,zero_add→x6,zero_le→j7
open Option renaming none→nO,some→sO
open Go.Proofs.Tryz
set_option linter.unusedSimpArgs false
set_option linter.unusedVariables false
set_option maxHeartbeats 16000000
set_option maxRecDepth 100000
namespace Go.Proofs.YtmapdpcfanecdabGreatDoor
section
open Go.RowKit
theorem WI (w:World)(g:Gs)(ss:oA)(gc:Nat)(h:Gs)(st:oA)(hc:Nat)(hs:IntsAt w ss g.s)(hgl:g.s.length<=9223372036854775807)(ht:IntsAt w st h.s)(hhl:h.s.length<=9223372036854775807):
  Calls pG 115 #[I Y 9,gv g ss gc,gv h st hc] w λe w'=>e=Rt (if (an g||an h)=true then Tu #[gv noneG nO 0,Bb false] else Tu #[gv ⟨false,⟨true,0,0⟩,(g.n&&h.n)||(!(aM g.sp h.sp).n||((g.t&&h.t)||((g.f&&h.f)||g.s.any λx=>h.s.contains x))),!cX g h,[]⟩ nO 0,Bb false])/\bl w w':=by
 have c1:g.n=true\/g.n=false:=by cases g.n<;>simp
 have c2:h.n=true\/h.n=false:=by cases h.n<;>simp
 by_cases hS:bT g < 0\/bT g≠bT h
 ·rcases c1 with e1|e1
  ·rcases c2 with e2|e2
   ·exact Sj w g ss gc h st hc hs hgl ht hhl e1 e2 hS
   ·exact Sf w g ss gc h st hc hs hgl ht hhl e1 e2 hS
  ·exact RE w g ss gc h st hc hs hgl ht hhl e1 hS
 ·have h1:¬bT g < 0:=λh=>hS (.inl h)
  have h2:bT g=bT h:=Classical.byContradiction λh=>hS (.inr h);rcases c1 with e1|e1
  ·rcases c2 with e2|e2
   ·exact Rn w g ss gc h st hc hs hgl ht hhl e1 e2 h1 h2
   ·exact RH w g ss gc h st hc hs hgl ht hhl e1 e2 h1 h2
  ·exact Py w g ss gc h st hc hs hgl ht hhl e1 h1 h2
theorem pn {p:Prop}(h:p:=by
 rintro e w' ⟨rfl,hb⟩;cases hn:(an g||an h)
 ·exact⟨none,0,by rw[if_neg (by simp),GB (by omega) hn],.inl ⟨by rw[GB (by omega) hn],rfl,rfl⟩,hb⟩
 ·exact⟨none,0,Ef,.inl ⟨Eb,rfl,rfl⟩,hb⟩):p:=h
theorem UD {V F:Int}{c:lI}(g:Gs)(ss:oA)(gc:Nat)(h:Gs)(st:oA)(hc:Nat)(k:Int)(w:World)(hs:IntsAt w ss g.s)(hgl:g.s.length<=9223372036854775807)(ht:IntsAt w st h.s)(hhl:h.s.length<=9223372036854775807)(hck:ba V F c [g,h]=0)(hk:¬(k < 4\/10 < k)):
  Calls pG 115 #[I Y k,gv g ss gc,gv h st hc] w λe w'=>∃vs vc,e=Rt (Tu #[gv (cK k g h).1 vs vc,Bb (cK k g h).2])/\(((cK k g h).1.s=[]/\vs=nO/\vc=0)\/(vs=ss/\vc=gc/\(cK k g h).1.s=g.s))/\bl w w':=by
 obtain⟨-,hg,hh⟩:=pN hck;have ok1:=ckSp_ok.mp (lF hg);have ok2:=ckSp_ok.mp (lF hh);have h7:=Iq;rcases h7 with rfl|rfl|rfl|rfl|rfl|rfl|rfl
 ·refine(WN w g ss gc h st hc).mono ?_
  rintro e w' ⟨rfl,hb⟩;cases hn:an g
  ·exact⟨ss,gc,by rw[if_neg (by simp),Hp],.inr ⟨rfl,rfl,by rw[Hp]⟩,hb⟩
  ·exact⟨nO,0,by rw[if_pos rfl,Hp,sE hn hg],.inl ⟨by rw[Hp,sE hn hg];rfl,rfl,rfl⟩,hb⟩
 ·refine(WK w g ss gc h st hc ok1 ok2).mono ?_
  exact pn
 ·refine(WJ w g ss gc h st hc ok1 ok2).mono ?_
  exact pn
 ·refine(WR w g ss gc h st hc ok1 ok2).mono ?_
  exact pn
 ·refine(WH w g ss gc h st hc).mono ?_
  rintro e w' ⟨rfl,hb⟩;cases hn:(an g||an h)
  ·exact⟨nO,0,by rw[if_neg (by simp),TA hn],.inl ⟨by rw[TA hn],rfl,rfl⟩,hb⟩
  ·exact⟨nO,0,Ef,.inl ⟨Eb,rfl,rfl⟩,hb⟩
 ·refine(WI w g ss gc h st hc hs hgl ht hhl).mono ?_
  rintro e w' ⟨rfl,hb⟩;cases hn:(an g||an h)
  ·exact⟨nO,0,by rw[if_neg (by simp),Tc hn],.inl ⟨by rw[Tc hn],rfl,rfl⟩,hb⟩
  ·exact⟨nO,0,Ef,.inl ⟨Eb,rfl,rfl⟩,hb⟩
 ·refine(Wg w g ss gc h st hc).mono ?_
  rintro e w' ⟨rfl,hb⟩;cases hn:an g
  ·exact⟨nO,0,by rw[if_neg (by simp),Bc],.inl ⟨by rw[Bc],rfl,rfl⟩,hb⟩
  ·exact⟨nO,0,by rw[if_pos rfl,Bc,sE hn hg,no_none.1,no_none.2];rfl,.inl ⟨by rw[Bc],rfl,rfl⟩,hb⟩
end
section
open Go.RowKit
attribute [local go_sem ↓] Go.wp_at_zero Go.wp_at_succ
theorem Cx {p:Prop}(h:p:=by
 have a0:=AP.1 0 _ rfl;have e0:=EP.1 0 _ rfl;have a1:=AP.1 1 _ rfl;have e1:=EP.1 1 _ rfl;have a2:=AP.1 2 _ rfl;have e2:=EP.1 2 _ rfl;have a3:=AP.1 3 _ rfl;have e3:=EP.1 3 _ rfl;have a4:=AP.1 4 _ rfl;have e4:=EP.1 4 _ rfl;have a5:=AP.1 5 _ rfl;have e5:=EP.1 5 _ rfl;have a6:=AP.1 6 _ rfl;have e6:=EP.1 6 _ rfl;go_wp2_with fail;refine(HDO.out wp BP).mono ?_;rintro e wd ⟨ss,cp,rfl,HJ0,hbd⟩;have HJ:=ag HJ0;clear HJ0 HDO a0 e0 a1 e1 a2 e2 a3 e3 a4 e4 a5 e5 a6 e6 i0 q19 q18 q16 q15 q17 q13 q12 q11 q1 q14 q2 q3;have TQ:=TP.call hbd;have IQ:=IP.call hbd;have YQ:=YP.call hbd;have OQ:=OP.call hbd;have BQ:=BP.trans (hbd.mono BP.size);have YWQ:=YW.trans (hbd.mono YW.size);clear TP IP YP OP BP YW hbd PP XP AP EP;have TP:=TQ;have IP:=IQ;have YP:=YQ;have OP:=OQ;have BP:=BQ;have YW:=YWQ;clear TQ IQ YQ OQ BQ YWQ;have z0:=TP.1 0 _ rfl;have fz0:=TP.2.2 0;have z1:=TP.1 1 _ rfl;have fz1:=TP.2.2 1;have z2:=TP.1 2 _ rfl;have fz2:=TP.2.2 2;have z3:=TP.1 3 _ rfl;have fz3:=TP.2.2 3;have z4:=TP.1 4 _ rfl;have fz4:=TP.2.2 4;have z5:=TP.1 5 _ rfl;have fz5:=TP.2.2 5;have z6:=TP.1 6 _ rfl;have fz6:=TP.2.2 6;go_upto_region 84 with fail
 clear z0 fz0 z1 fz1 z2 fz2 z3 fz3 z4 fz4 z5 fz5 z6 fz6;obtain⟨wx,ewx⟩:∃q,q=bD wd (w11.heap.size) 0 [.bool gg.n,.bool gg.sp.n,.int .i64 gg.sp.lo,.int .i64 gg.sp.hi,.bool gg.t,.bool gg.f,.slice ss gg.s.length cp]:=⟨_,rfl⟩;have PU:=bO TP 0 _ ewx;simp only[bD] at ewx;rw[<-ewx];clear ewx;have TX:=PU.cells;have IX:=PU.keep IP;have YX:=PU.keep YP;have OX:=PU.keep OP;have BX:=PU.low aa BP;have YWX:=PU.low aa YW;have HGI:Hid (IntsIn (λb=>(T b/\b < w.heap.size)\/w3.heap.size<=b) wx ss gg.s):=(PU.ints HJ.out.1 (λq hq=>aa)).mono λb hb _=>.inl hb;have HCP:Hid (gg.s.length<=cp/\cp<=maxLen):=HJ.out.2;clear PU HJ HGW;rcases Bool.eq_false_or_eq_true (an gg) with hn0|hn0
 ·have hng:=ag hn0
  clear hn0;have HIS:=Kb;have t0:=TX.1 0 _ rfl;have t1:=TX.1 1 _ rfl;have t2:=TX.1 2 _ rfl;have t3:=TX.1 3 _ rfl;have t4:=TX.1 4 _ rfl;have t5:=TX.1 5 _ rfl;have t6:=TX.1 6 _ rfl;go_wp2_with fail;refine((HIS.out wx).mono ?_);rintro e wy ⟨rfl,hby⟩;clear t0 t1 t2 t3 t4 t5 t6;have TY:=TX.call hby
  have IY:=IX.call hby
  have YY:=YX.call hby
  have OY:=OX.call hby
  have BY:=lf;have YWY:=nc;have HGY:=lm;clear TX IX YX OX BX YWX HIS HGI;clear TY IY YY OY YWY HGY;go_wp2;refine bodyPost_ret (v:=.tuple #[.slice none 0 0,.bool wr,.bool false]) eP rfl ⟨?_,BY⟩;rw[HST.out,if_pos hng.out];exact rm
 ·have hng:=ag hn0
  clear hn0;have HIS:=sP;have t0:=TX.1 0 _ rfl;have t1:=TX.1 1 _ rfl;have t2:=TX.1 2 _ rfl;have t3:=TX.1 3 _ rfl;have t4:=TX.1 4 _ rfl;have t5:=TX.1 5 _ rfl;have t6:=TX.1 6 _ rfl;go_wp2_with fail;refine((HIS.out wx).mono ?_);rintro e wy ⟨rfl,hby⟩;clear t0 t1 t2 t3 t4 t5 t6;have TY:=TX.call hby
  have IY:=IX.call hby
  have YY:=YX.call hby
  have OY:=OX.call hby
  have BY:=lf;have YWY:=nc;have HGY:=lm;clear TX IX YX OX BX YWX HIS HGI;have GP:=yE;have GC:=pI;have hktv:kt < v.l.length:=uw;obtain⟨vb,evb,eb1,hvb,zvb⟩:=k9;have GP2:=sh;have GS:=GP2.setV evb hktv GC;have GU:=rO;obtain⟨⟨u0,u1,u2,u3,u4,u5,u6⟩,uz⟩:=GU;have TH:=GP.vq.thaw evb;have f0:=TH (kt * 7);have f1:=TH (kt * 7+1);have f2:=TH (kt * 7+2);have f3:=TH (kt * 7+3);have f4:=TH (kt * 7+4);have f5:=TH (kt * 7+5);have f6:=TH (kt * 7+6);have y1:=YY.1 1 _ rfl;rw[evb] at y1;have i1:=IY.1 1 _ rfl;rw[HKT.out] at i1;have t0:=TY.1 0 _ rfl;have t1:=TY.1 1 _ rfl;have t2:=TY.1 2 _ rfl;have t3:=TY.1 3 _ rfl;have t4:=TY.1 4 _ rfl;have t5:=TY.1 5 _ rfl;have t6:=TY.1 6 _ rfl;have q0:=pK;have q1:=p6;have HEV:=ag evb;have OS:=Ak;have BS:=rM;have HF:Hid (bY (λb=>T b\/w.heap.size<=b) (cj wy vb kt ⟨gg,ss,cp⟩) (.returned (.tuple #[.slice (some ⟨w4.heap.size,0,none⟩) 1 1,.bool wr,.bool false])) (aA i (m:Int) x)):=by
   show bY _ _ _ _;rw[HST.out,if_neg ur];refine⟨some ⟨w4.heap.size,0,none⟩,1,rfl,?_⟩;refine lh (S:=(λb=>T b\/w.heap.size<=b)) (v:=⟨v.rs,v.rc,v.l.set kt ⟨gg,ss,cp⟩⟩) (L:=L) uX (.inr aa) GS (λb hb=>hb) (λb hb=>.inr aa) ?_;rw[eh,<-EPV.out,HKT.out]
  clear GP GC GP2 GS TH TY IY YY OY OS BY HGY GOW YWY EPV evb;obtain⟨wv,ewv⟩:∃q,q=cj wy vb kt ⟨gg,ss,cp⟩:=⟨_,rfl⟩;have HF2:=rA;rw[<-ewv] at HF2;go_upto_region 87 with fail
  clear u0 u1 u2 u3 u4 u5 u6 uz f0 f1 f2 f3 f4 f5 f6 t0 t1 t2 t3 t4 t5 t6 y1 i1 HF BS;simp only[cj] at ewv;rw[<-ewv];clear ewv;go_wp2;refine bodyPost_ret (v:=.tuple #[.slice (some ⟨w4.heap.size,0,none⟩) 1 1,.bool wr,.bool false]) eP rfl HF2.out):p:=h
theorem Bh {p:Prop}(h:p:=by
 rw[<-hgw] at h;refine h.mono ?_;rintro e w' ⟨ss,cp,h1,h2,h3⟩;refine⟨ss,cp,h1,?_,h3⟩;rcases h2 with⟨e1,rfl,rfl⟩|⟨rfl,rfl,e1⟩
 ·exact⟨.inl e1,by rw[e1];exact Nat.zero_le _,Nat.zero_le _⟩
 ·have e2:gg.s=x.vq[ka].s:=e1
  rw[e2];exact⟨hga.call h3,GAI.2⟩):p:=h
theorem Cn {p:Prop}(h:p:=by
 show _=_;unfold aA;rw[e,if_neg oW,if_neg aa,if_neg aa,if_neg aa,if_neg aa,if_neg aa,if_neg aa,if_neg (show¬i.k=11 by omega)]):p:=h
theorem PM {T:Nat->Prop}{V F:Int}{s:oA}{c:lI}{cap m:Nat}{i:Ins}{x:Pic}{vs:oA}{vc:Nat}{fs:oA}{fc:Nat}{w:World}{w3 w4 w7 w11 wp:World}{v:Ro}{gs:oA}{gc:Nat}{L:List Ro}(hx:PicOn T w x vs fs)(K:SCtx V F c x vc fc i (m:Int))(hk:4<=i.k/\i.k<=10){ka:Nat}{sska:oA}{gcka:Nat}(hkax:ka < x.vq.length)(eka:i.a=(ka:Int)){kb:Nat}{sskb:oA}{gckb:Nat}(hkbx:kb < x.vq.length)(ekb:i.b=(kb:Int))(SP:Hid (SPre T V F s c cap (m:Int) i x vs vc fs fc w wp (w.heap.size+1+1) w3.heap.size w4.heap.size w7.heap.size (w7.heap.size+1) w11.heap.size w3 v gs gc L x.vq[ka] sska gcka x.vq[kb] sskb gckb)):SwT (λe w'=>bY (λb=>T b\/w.heap.size<=b) w' e (aA i (m:Int) x)/\bl w w') m w w3 w4 w7 w11 wp:=by
 have HKAV:=dS;have HKBV:=ag ekb;have HKK:=ag hk;clear hk;have HK:=ag K;have HX:=cC;have h60:=K.lens.2.1;have n0:=dF;have n1:=dK;have hm:=cS;have w61:=c7;clear K hx eka ekb;refine gX rfl λz0 z2 z4 u=> ?_;simp only[q5,q5.loop,List.map];obtain⟨BP,PP,XP,IP,YP,OP,AP,EP,TP,GAI,GBI,GOW,YW,-,EPV0,-,o2,o3,o4,o5,o6⟩:=SP.out;have EPV:=dJ;clear EPV0;have i0:=dH;have hk1:=HKK.out.1;have hk2:=HKK.out.2;have q19:(i.k==19)=false:=ap;have q18:(i.k==18)=false:=ap;have q16:(i.k==16)=false:=ap;have q15:(i.k==15)=false:=ap;have q17:(i.k==17)=false:=ap;have q13:(i.k==13)=false:=ap;have q12:(i.k==12)=false:=ap;have q11:(i.k==11)=false:=ap;have q1:(i.k==1)=false:=ap;have q14:(i.k==14)=false:=ap;have q2:(i.k==2)=false:=ap;have q3:(i.k==3)=false:=ap;clear hk1 hk2;obtain⟨kt,ekt,hktx⟩:=HK.out.varTo Mx;have HKT:=ag ekt;clear ekt;have ega:=ll;have egb:gAt x i.b=x.vq[kb]:=by rw[HKBV.out,it hkbx]
 obtain⟨⟨gg,wr⟩,hgw⟩:∃q,q=cK i.k x.vq[ka] x.vq[kb]:=⟨_,rfl⟩;have HGW:=ag hgw;have HST:Hid (aA i (m:Int) x=if an gg then([],wr,false) else([⟨(m:Int)+1,aY x i.tgt gg⟩],wr,false)):=by
  have hr:=HKK.out;have e:aZ i (m:Int) x=(gg,wr):=by
   unfold aZ;rw[if_neg aa,if_neg aa,if_neg aa,if_neg aa,if_neg aa,if_neg aa,ega,egb];exact hgw.symm
  exact Cn
 have HDO:Hid (∀wx,bl w wx->Calls pG 115 #[I Y i.k,Ag #[Bb x.vq[ka].n,Bb x.vq[ka].sp.n,I Y x.vq[ka].sp.lo,I Y x.vq[ka].sp.hi,Bb x.vq[ka].t,Bb x.vq[ka].f,U sska x.vq[ka].s.length gcka],Ag #[Bb x.vq[kb].n,Bb x.vq[kb].sp.n,I Y x.vq[kb].sp.lo,I Y x.vq[kb].sp.hi,Bb x.vq[kb].t,Bb x.vq[kb].f,U sskb x.vq[kb].s.length gckb]] wx λe w'=>∃ss cp,e=Rt (Tu #[Ag #[Bb gg.n,Bb gg.sp.n,I Y gg.sp.lo,I Y gg.sp.hi,Bb gg.t,Bb gg.f,U ss gg.s.length cp],Bb wr])/\(IntsIn (λb=>T b/\b < w.heap.size) w' ss gg.s/\gg.s.length<=cp/\cp<=maxLen)/\bl wx w'):=λwx hb'=>by
  have hr:=HKK.out;have hcka:=rl;have hgb:IntsAt wx sskb (x.vq[kb]:Gs).s/\(x.vq[kb]:Gs).s.length<=9223372036854775807:=⟨(GBI.1.same (w':=wx) (λb hb hlt=>hb'.block b hlt) hb'.size).at,by have:=GBI.2.1;have:=GBI.2.2;unfold maxLen at *;omega⟩
  have hga:=KZ;have h:=UD (V:=V) (F:=F) (c:=c) x.vq[ka] sska gcka x.vq[kb] sskb gckb i.k wx hga.at Ms hgb.1 hgb.2 (HK.out.duo hcka (HK.out.kx.gv _ (gM hkbx))) aa;exact Bh
 clear hgw ega egb;exact Cx
theorem RB {T:Nat->Prop}{V F:Int}{s:oA}{c:lI}{cap m:Nat}{i:Ins}{x:Pic}{vs:oA}{vc:Nat}{fs:oA}{fc:Nat}{w:World}{w3 w4 w7 w11 wp:World}{v:Ro}{gs:oA}{gc:Nat}{L:List Ro}(hx:PicOn T w x vs fs)(K:SCtx V F c x vc fc i (m:Int))(hk:4<=i.k/\i.k<=10)(hnB:nB i.k=false){ka:Nat}{sska:oA}{gcka:Nat}(hkax:ka < x.vq.length)(eka:i.a=(ka:Int))(SP:Hid (SPre T V F s c cap (m:Int) i x vs vc fs fc w wp (w.heap.size+1+1) w3.heap.size w4.heap.size w7.heap.size (w7.heap.size+1) w11.heap.size w3 v gs gc L x.vq[ka] sska gcka noneG nO 0)):SwT (λe w'=>bY (λb=>T b\/w.heap.size<=b) w' e (aA i (m:Int) x)/\bl w w') m w w3 w4 w7 w11 wp:=by
 have HKAV:=dS;have HKK:=ag hk;have hnBO:=ag hnB;clear hk hnB;have HK:=ag K;have HX:=cC;have h60:=K.lens.2.1;have n0:=dF;have n1:=dK;have hm:=cS;have w61:=c7;clear K hx eka;refine gX rfl λz0 z2 z4 u=> ?_;simp only[q5,q5.loop,List.map];obtain⟨BP,PP,XP,IP,YP,OP,AP,EP,TP,GAI,GBI,GOW,YW,-,EPV0,-,o2,o3,o4,o5,o6⟩:=SP.out;have EPV:=dJ;clear EPV0;have i0:=dH;have hk1:=HKK.out.1;have hk2:=HKK.out.2;have q19:(i.k==19)=false:=ap;have q18:(i.k==18)=false:=ap;have q16:(i.k==16)=false:=ap;have q15:(i.k==15)=false:=ap;have q17:(i.k==17)=false:=ap;have q13:(i.k==13)=false:=ap;have q12:(i.k==12)=false:=ap;have q11:(i.k==11)=false:=ap;have q1:(i.k==1)=false:=ap;have q14:(i.k==14)=false:=ap;have q2:(i.k==2)=false:=ap;have q3:(i.k==3)=false:=ap;clear hk1 hk2;obtain⟨kt,ekt,hktx⟩:=HK.out.varTo Mx;have HKT:=ag ekt;clear ekt;have ega:=ll;obtain⟨⟨gg,wr⟩,hgw⟩:∃q,q=cK i.k x.vq[ka] noneG:=⟨_,rfl⟩;have HGW:=ag hgw;have EDO:Hid (∀h,cK i.k x.vq[ka] h=cK i.k x.vq[ka] noneG):=λh=>by
  have hb:=hnBO.out;have hr:=HKK.out;have:i.k=4\/i.k=10:=by unfold nB btw at hb;simp at hb;omega
  rcases this with e|e<;>rw[e]<;>simp[cK]
 have HST:Hid (aA i (m:Int) x=if an gg then([],wr,false) else([⟨(m:Int)+1,aY x i.tgt gg⟩],wr,false)):=by
  have hr:=HKK.out;have e:aZ i (m:Int) x=(gg,wr):=by
   unfold aZ;rw[if_neg aa,if_neg aa,if_neg aa,if_neg aa,if_neg aa,if_neg aa,ega,EDO.out];exact hgw.symm
  exact Cn
 have HDO:Hid (∀wx,bl w wx->Calls pG 115 #[I Y i.k,Ag #[Bb x.vq[ka].n,Bb x.vq[ka].sp.n,I Y x.vq[ka].sp.lo,I Y x.vq[ka].sp.hi,Bb x.vq[ka].t,Bb x.vq[ka].f,U sska x.vq[ka].s.length gcka],Ag #[Bb false,Bb true,I Y 0,I Y 0,Bb false,Bb false,U nO 0 0]] wx λe w'=>∃ss cp,e=Rt (Tu #[Ag #[Bb gg.n,Bb gg.sp.n,I Y gg.sp.lo,I Y gg.sp.hi,Bb gg.t,Bb gg.f,U ss gg.s.length cp],Bb wr])/\(IntsIn (λb=>T b/\b < w.heap.size) w' ss gg.s/\gg.s.length<=cp/\cp<=maxLen)/\bl wx w'):=λwx hb'=>by
  have hr:=HKK.out;have hcka:=rl;have hgb:IntsAt wx nO (noneG:Gs).s/\(noneG:Gs).s.length<=9223372036854775807:=⟨.inl rfl,j7 _⟩;have hga:=KZ;have h:=UD (V:=V) (F:=F) (c:=c) x.vq[ka] sska gcka noneG nO 0 i.k wx hga.at Ms hgb.1 hgb.2 (HK.out.duo hcka (rfl)) aa;exact Bh
 clear hgw ega EDO;exact Cx
theorem NI {S:Nat->Prop}(V F:Int)(s:oA)(c:lI)(cap:Nat)(at_:Int)(i:Ins)(x:Pic)(vs:oA)(vc:Nat)(fs:oA)(fc:Nat)(w:World)(hn:x.none=true):
  Calls pG 59 #[pv V F s c cap,I Y at_,xv x vs vc fs fc] w λe w'=>bY S w' e (aA i at_ x)/\bl w w':=by
 have e:aA i at_ x=([],false,false):=by unfold aA;rw[if_pos hn]
 have exv:xv x vs vc fs fc=Ag #[Bb true,U vs x.vq.length vc,U fs x.fq.length fc]:=MS;rw[e,exv];clear e exv hn;go_enter func59,ntmps59;go_wp2;refine bodyPost_ret (v:=Tu #[U nO 0 0,Bb false,Bb false]) eP rfl ⟨⟨nO,0,rfl,EdsOn.nil⟩,am⟩
theorem VZ {T:Nat->Prop}{V F:Int}{s:oA}{c:lI}{cap m:Nat}{i:Ins}{x:Pic}{vs:oA}{vc:Nat}{fs:oA}{fc:Nat}{w:World}(hc:CodeAt w s c)(hx:PicOn T w x vs fs)(K:SCtx V F c x vc fc i (m:Int)):
  Calls pG 59 #[pv V F s c cap,I Y (m:Int),xv x vs vc fs fc] w λe w'=>bY (λb=>T b\/w.heap.size<=b) w' e (aA i (m:Int) x)/\bl w w':=by
 have hk:=(cl K.one).1;unfold btw at hk;simp only[Bool.and_eq_true,decide_eq_true_eq] at hk;by_cases h1:i.k=1
 ·exact gK hc hx K (by rw[h1];rfl) (by rw[h1];rfl) (λ_ _ _ _ _ _ _ _ _ SP=>VM hx K h1 SP)
 by_cases h2:i.k=2
 ·exact gK hc hx K (by rw[h2];rfl) (by rw[h2];rfl) (λ_ _ _ _ _ _ _ _ _ SP=>VE hx K h2 SP)
 by_cases h3:i.k=3
 ·exact gK hc hx K (by rw[h3];rfl) (by rw[h3];rfl) (λ_ _ _ _ _ _ _ _ _ SP=>VG hx K h3 SP)
 by_cases h11:i.k=11
 ·exact gK hc hx K (by rw[h11];rfl) (by rw[h11];rfl) (λ_ _ _ _ _ _ _ _ _ SP=>To hx K h11 SP)
 by_cases h12:i.k=12
 ·exact kE hc hx K (by rw[h12];rfl) (by rw[h12];rfl) (λ_ _ _ _ _ _ _ _ _ _ _ _ ha ea SP=>Ut hx K h12 ha ea SP)
 by_cases h13:i.k=13
 ·exact AF hc hx K (by rw[h13];rfl) (by rw[h13];rfl) (λ_ _ _ _ _ _ _ _ _ _ _ _ ha ea _ _ _ hb eb SP=>SE hx K h13 ha ea hb eb SP)
 by_cases h14:i.k=14
 ·exact gK hc hx K (by rw[h14];rfl) (by rw[h14];rfl) (λ_ _ _ _ _ _ _ _ _ SP=>TM hx K h14 SP)
 by_cases h15:i.k=15
 ·exact kE hc hx K (by rw[h15];rfl) (by rw[h15];rfl) (λ_ _ _ _ _ _ _ _ _ _ _ _ ha ea SP=>Ts hx K h15 ha ea SP)
 by_cases h16:i.k=16
 ·exact gK hc hx K (by rw[h16];rfl) (by rw[h16];rfl) (λ_ _ _ _ _ _ _ _ _ SP=>SU hx K h16 SP)
 by_cases h17:i.k=17
 ·exact kE hc hx K (by rw[h17];rfl) (by rw[h17];rfl) (λ_ _ _ _ _ _ _ _ _ _ _ _ ha ea SP=>SH hx K h17 ha ea SP)
 by_cases h18:i.k=18
 ·exact kE hc hx K (by rw[h18];rfl) (by rw[h18];rfl) (λ_ _ _ _ _ _ _ _ _ _ _ _ ha ea SP=>Tz hx K h18 ha ea SP)
 by_cases h19:i.k=19
 ·exact gK hc hx K (by rw[h19];rfl) (by rw[h19];rfl) (λ_ _ _ _ _ _ _ _ _ SP=>Ux hx K h19 SP)
 have hr:4<=i.k/\i.k<=10:=aa;have hA:nA i.k=true:=by unfold nA btw;simp;omega
 rcases j8 (nB i.k) with hB|hB
 ·exact AF hc hx K hA hB (λ_ _ _ _ _ _ _ _ _ _ _ _ ha ea _ _ _ hb eb SP=>PM hx K hr ha ea hb eb SP)
 ·exact kE hc hx K hA hB (λ_ _ _ _ _ _ _ _ _ _ _ _ ha ea SP=>RB hx K hr hB ha ea SP)
theorem Eo (T:Nat->Prop)(V F:Int)(s:oA)(c:lI)(cap:Nat)(at_:Int)(x:Pic)(vs:oA)(vc:Nat)(fs:oA)(fc:Nat)(w:World)(hc:CodeAt w s c)(hx:PicOn T w x vs fs)(h0:au V F c=0)(hck:aO V F c x=0)(a0:0<=at_)(a1:at_ < c.length)(h1:x.vq.length<=vc/\vc<=maxLen)(h2:x.fq.length<=fc/\fc<=maxLen):
  Calls pG 59 #[pv V F s c cap,I Y at_,xv x vs vc fs fc] w λe w'=>bY (λb=>T b\/w.heap.size<=b) w' e (aA (bL c at_) at_ x)/\bl w w':=by
 rcases j8 x.none with hn|hn
 ·exact NI V F s c cap at_ (bL c at_) x vs vc fs fc w hn
 ·obtain⟨m,rfl⟩:=j9 a0
  exact VZ hc hx ⟨h0,cA hck hn,rfl,a0,a1,h1,h2⟩
theorem Tn:Gv:=by
 intro V F s c cap w h0;obtain⟨⟨hV1,hV8⟩,⟨hF0,hF3⟩,h60⟩:=fZ;obtain⟨v,rfl⟩:=j9 (show 0<=V by omega);obtain⟨f,rfl⟩:=j9 hF0;refine(LI v f s c cap w aa aa h60).mono ?_;rintro e w' ⟨⟨vs,vc,fs,fc,h1,h2,h3⟩,hb⟩;exact⟨⟨vs,vc,fs,fc,h1,h2.at,h3⟩,hb⟩
theorem UZ:Me:=λT V F s c cap at_ x vs vc fs fc w hc hx h0 hck a0 a1 h1 h2=>Eo T V F s c cap at_ x vs vc fs fc w hc hx h0 hck a0 a1 h1 h2
theorem Vi:Nt:=λS V F c wide x y vs1 vc1 fs1 fc1 vs2 vc2 fs2 fc2 w hx hy p1 p2 q1 q2 h0 h1 h2=>by
 cases wide with
 |false=>
  have h:=nX false _ (yd h0) x y vs1 vc1 fs1 fc1 vs2 vc2 fs2 fc2 w S hx hy p1 p2 q1 q2 h0 h1 h2;rw[(lK h0 h1 h2).1] at h;exact h
 |true=>
  have h:=nX true _ (Ua h0) x y vs1 vc1 fs1 fc1 vs2 vc2 fs2 fc2 w S hx hy p1 p2 q1 q2 h0 h1 h2;rw[(lK h0 h1 h2).2] at h;exact h
theorem Lm (V F:Int)(s:oA)(c:lI)(cap:Nat)(w:World)(hc:CodeAt w s c)(h0:au V F c=0):
  Calls pG 31 #[pv V F s c cap] w λe w'=>Hc V F c e w'/\bl w w':=NF Tn UZ Vi V F s c cap w hc h0
theorem Vx (sb:Nat)(i:Ins)(V F:Int)(s:oA)(c:lI)(cap:Nat)(at_:Int)(x:Pic)(vs:oA)(vc:Nat)(fs:oA)(fc:Nat)(w0 w:World)(hS:Cells w sb (aW i V F s c cap at_ x vs vc fs fc (U nO 0 0) false false))(hc0:CodeAt w0 s c)(hx0:PicAt w0 x vs fs)(hz0:w0.heap.size<=sb)(hB0:bl w0 w)(K:SCtx V F c x vc fc i at_)(hk:i.k=11):
  Calls pG 47 #[Pp (sO ⟨sb,0,nO⟩)] w λe w'=>e=Rt (Tu #[])/\cM sb w' (λev'=>aW i V F s c cap at_ x vs vc fs fc ev' false false) [] ([⟨at_+1,(aY (gQ at_ x) i.tgt ⟨false,⟨true,0,0⟩,false,false,[at_]⟩)⟩])/\Below sb w w':=by
 have hm:∃m:Nat,at_=m/\m < x.fq.length:=by
  obtain⟨m,em⟩:=j9 K.a0;have h1:=K.a1;have h2:=K.kx.fq;exact⟨m,em,aa⟩
 have HC:=ag (KL (aY (gQ at_ x) i.tgt ⟨false,⟨true,0,0⟩,false,false,[at_]⟩) [] nO 0 sb i V F s c cap at_ x vs vc fs fc false false w0 w hS hc0 hx0 hz0 hB0 K (ERow.nil sb sb w) ah (λwx hb hs hp=>Wz sb sb _ i V F s c cap at_ x vs vc fs fc _ false false w.heap.size wx hs hp (K.varTo ir) hm (z9 (lL hS.2.1 hb.size)) (λb h=>aT)));have s0:=dG;rw[hk] at s0;clear hS hc0 hx0 hB0 K hz0 hk;go_enter func47,ntmps47;go_wp2_with fail;refine HC.out.mono ?_;rintro e w1 ⟨rfl,HA0,hb1⟩;have HA:=ag HA0;clear HA0 HC s0;go_wp2;first|go_end0|refine bodyPost_ret (results_none rfl _ _ _) rfl ?_
 exact⟨rfl,HA.out,hb1⟩
theorem VU (sb:Nat)(i:Ins)(V F:Int)(s:oA)(c:lI)(cap:Nat)(at_:Int)(x:Pic)(vs:oA)(vc:Nat)(fs:oA)(fc:Nat)(w0 w:World)(hS:Cells w sb (aW i V F s c cap at_ x vs vc fs fc (U nO 0 0) false false))(hc0:CodeAt w0 s c)(hx0:PicAt w0 x vs fs)(hz0:w0.heap.size<=sb)(hB0:bl w0 w)(K:SCtx V F c x vc fc i at_)(hk:i.k=13):
  Calls pG 47 #[Pp (sO ⟨sb,0,nO⟩)] w λe w'=>e=Rt (Tu #[])/\cM sb w' (λev'=>aW i V F s c cap at_ x vs vc fs fc ev' (bN (gAt x i.a)) false) [] (if (gAt x i.a).s.length=0 then [] else [⟨at_+1,(dw x i.n (gAt x i.b) (gAt x i.a).s)⟩])/\Below sb w w':=by
 obtain⟨LST,hlst⟩:∃q:List Edg,q=if (gAt x i.a).s.length=0 then [] else [⟨at_+1,(dw x i.n (gAt x i.b) (gAt x i.a).s)⟩]:=⟨_,rfl⟩
 rw[<-hlst];have HLS:=ag hlst;clear hlst;have hN:∃p:Nat,i.n=p/\(p:Int) < F:=by
  have hn:=(cl K.one).2.2.2.2.1 (.inr hk);obtain⟨p,ep⟩:=j9 hn.1;exact⟨p,ep,aa⟩
 have HC:=ag (V8 (dw x i.n (gAt x i.b) (gAt x i.a).s) [] nO 0 sb i V F s c cap at_ x vs vc fs fc false false w0 w hS hc0 hx0 hz0 hB0 K (ERow.nil sb sb w) ah ir (λwx ss gc tb hb hs hp hq hi=>Wm sb sb _ i V F s c cap at_ x vs vc fs fc _ _ false tb w.heap.size ss gc w0 wx hs hp hq hc0 hx0 hi hb K ir ir hN (z9 hs.2.1) (λb h=>aT)));have s0:=dG;rw[hk] at s0;clear hS hc0 hx0 hB0 K hz0 hk;go_enter func47,ntmps47;go_wp2_with fail;refine HC.out.mono ?_;rintro e w1 ⟨rfl,HA0,hb1⟩;have HA:=ag HA0;clear HA0 HC s0;go_wp2;first|go_end0|refine bodyPost_ret (results_none rfl _ _ _) rfl ?_
 exact⟨rfl,by rw[HLS.out];exact HA.out,hb1⟩
theorem UY (sb:Nat)(i:Ins)(V F:Int)(s:oA)(c:lI)(cap:Nat)(at_:Int)(x:Pic)(vs:oA)(vc:Nat)(fs:oA)(fc:Nat)(w0 w:World)(hS:Cells w sb (aW i V F s c cap at_ x vs vc fs fc (U nO 0 0) false false))(hc0:CodeAt w0 s c)(hx0:PicAt w0 x vs fs)(hz0:w0.heap.size<=sb)(hB0:bl w0 w)(K:SCtx V F c x vc fc i at_)(hk:i.k=15):
  Calls pG 47 #[Pp (sO ⟨sb,0,nO⟩)] w λe w'=>e=Rt (Tu #[])/\cM sb w' (λev'=>aW i V F s c cap at_ x vs vc fs fc ev' false false) [] ((if cd (gAt x i.a) then [⟨i.g,aY x i.a (bw (gAt x i.a))⟩] else [])++(if cQ (gAt x i.a) then [⟨at_+1,aY x i.a (b8 (gAt x i.a))⟩] else []))/\Below sb w w':=by
 obtain⟨LST,hlst⟩:∃q:List Edg,q=(if cd (gAt x i.a) then [⟨i.g,aY x i.a (bw (gAt x i.a))⟩] else [])++(if cQ (gAt x i.a) then [⟨at_+1,aY x i.a (b8 (gAt x i.a))⟩] else []):=⟨_,rfl⟩;rw[<-hlst];have HLS:=ag hlst;clear hlst;have ha0:=K.a0;have ha1:=ld;have HC:=ag (Aq i.g [] nO 0 sb i V F s c cap at_ x vs vc fs fc false false w0 w hS hc0 hx0 hz0 hB0 K (ERow.nil sb sb w) ah ir);have hA:nA i.k=true:=ir;have s0:=dG;rw[hk] at s0;have s5:=hS.1 5 _ rfl;have HH:=Ib;clear hS hc0 hx0 hB0 K hz0 hk hA;go_enter func47,ntmps47;go_wp2_with fail;refine HC.out.mono ?_;rintro e w1 ⟨rfl,HA0,hb1⟩;obtain⟨hc0,hx0,hz0,hB0,K,hA⟩:=HH.out;obtain⟨ev,QL,C1,E1,eq1⟩:=HA0;rw[q4] at E1;obtain⟨es,ec,rfl,-,-⟩:=E1.form;have hq:QL.length<=10:=by
  have h:=congrArg List.length eq1;rw[x8] at h;rw[h];split<;>simp
 have hB1:=hB0.trans (hb1.mono hz0);have HN:=ag (Le (at_+1) QL es ec sb i V F s c cap at_ x vs vc fs fc false false w0 w1 C1 hc0 hx0 hz0 hB1 K E1 hq hA);have HQ:=ag eq1;have HC1:=ag C1;clear C1 E1 eq1 HC HH hc0 hx0 hz0 hB0 K hA hB1 hq s0 s5;go_wp2_with fail;refine(lA sb at_ _ w1 HC1.out rfl ha0 ha1).mono ?_;rintro e wz ⟨rfl,ew⟩;rw[ew];clear ew wz;go_wp2_with fail;refine HN.out.mono ?_;rintro e w2 ⟨rfl,⟨ev2,QL2,C2,E2,eq2⟩,hb2⟩;have HF:Hid (cM sb w2 (λev'=>aW i V F s c cap at_ x vs vc fs fc ev' false false) [] ((if cd (gAt x i.a) then [⟨i.g,aY x i.a (bw (gAt x i.a))⟩] else [])++(if cQ (gAt x i.a) then [⟨at_+1,aY x i.a (b8 (gAt x i.a))⟩] else []))):=⟨ev2,QL++QL2,C2,by rw[q4];exact E2,by rw[List.map_append,HQ.out,eq2]⟩;clear C2 E2 eq2 HN HC1 HQ;go_wp2;first|go_end0|refine bodyPost_ret (results_none rfl _ _ _) rfl ?_
 exact⟨rfl,by rw[HLS.out];exact HF.out,hb1.trans hb2⟩
theorem Df {p:Prop}(h:p:=by
 go_wp2_with fail;refine(HC.out w rfl).mono ?_;rintro e w1 ⟨rfl,HA0,hb1⟩;have HA:=ag HA0;clear HA0 HC s0;go_wp2;first|go_end0|refine bodyPost_ret (results_none rfl _ _ _) rfl ?_
 exact⟨rfl,HA.out,hb1⟩):p:=h
theorem Vk (sb:Nat)(i:Ins)(V F:Int)(s:oA)(c:lI)(cap:Nat)(at_:Int)(x:Pic)(vs:oA)(vc:Nat)(fs:oA)(fc:Nat)(w0 w:World)(hS:Cells w sb (aW i V F s c cap at_ x vs vc fs fc (U nO 0 0) false false))(hc0:CodeAt w0 s c)(hx0:PicAt w0 x vs fs)(hz0:w0.heap.size<=sb)(hB0:bl w0 w)(K:SCtx V F c x vc fc i at_)(hk:i.k=16):
  Calls pG 47 #[Pp (sO ⟨sb,0,nO⟩)] w λe w'=>e=Rt (Tu #[])/\cM sb w' (λev'=>aW i V F s c cap at_ x vs vc fs fc ev' false false) [] ([⟨i.g,x⟩])/\Below sb w w':=by
 have HC:Hid (∀wx,wx=w->Calls pG 93 #[Pp (sO ⟨sb,0,nO⟩),I Y (i.g),.func (.func 94) #[] #[]] wx λe w'=>e=Rt (Tu #[])/\cM sb w' (λev'=>aW i V F s c cap at_ x vs vc fs fc ev' false false) [] [⟨i.g,x⟩]/\Below sb wx w'):=λwx hw=>by
  subst hw;refine(Sy sb (i.g) x [] nO 0 sb i V F s c cap at_ x vs vc fs fc false false w0 wx hS hc0 hx0 hz0 hB0 K rfl (ERow.nil sb sb wx) ah (VH sb sb _ wx x)).mono ?_;rintro e w' ⟨h1,⟨ev',q,h2,h3,h4⟩,h5⟩;exact⟨h1,⟨ev',[q],h2,h3,by simp[h4]⟩,h5⟩
 have s0:=dG;rw[hk] at s0;have s5:=hS.1 5 _ rfl;clear hS hc0 hx0 hB0 K hz0 hk;go_enter func47,ntmps47;exact Df
theorem U0 (sb:Nat)(i:Ins)(V F:Int)(s:oA)(c:lI)(cap:Nat)(at_:Int)(x:Pic)(vs:oA)(vc:Nat)(fs:oA)(fc:Nat)(w0 w:World)(hS:Cells w sb (aW i V F s c cap at_ x vs vc fs fc (U nO 0 0) false false))(hc0:CodeAt w0 s c)(hx0:PicAt w0 x vs fs)(hz0:w0.heap.size<=sb)(hB0:bl w0 w)(K:SCtx V F c x vc fc i at_)(hk:i.k=17):
  Calls pG 47 #[Pp (sO ⟨sb,0,nO⟩)] w λe w'=>e=Rt (Tu #[])/\cM sb w' (λev'=>aW i V F s c cap at_ x vs vc fs fc ev' false (cQ (gAt x i.a))) [] ((if cd (gAt x i.a) then [⟨at_+1,aY x i.a (bw (gAt x i.a))⟩] else []))/\Below sb w w':=by
 obtain⟨LST,hlst⟩:∃q:List Edg,q=(if cd (gAt x i.a) then [⟨at_+1,aY x i.a (bw (gAt x i.a))⟩] else []):=⟨_,rfl⟩;rw[<-hlst];have HLS:=ag hlst;clear hlst;have ha0:=K.a0;have ha1:=ld;have HC:=ag (Aq (at_+1) [] nO 0 sb i V F s c cap at_ x vs vc fs fc false false w0 w hS hc0 hx0 hz0 hB0 K (ERow.nil sb sb w) ah ir);have hA:nA i.k=true:=ir;have s0:=dG;rw[hk] at s0;have HSS:=ag hS;have HH:=Ib;clear hS hc0 hx0 hB0 K hz0 hk hA;go_enter func47,ntmps47;go_wp2_with fail;refine(lA sb at_ _ w HSS.out rfl ha0 ha1).mono ?_;rintro e wz ⟨rfl,ew⟩;rw[ew];clear ew wz;go_wp2_with fail;refine HC.out.mono ?_;rintro e w1 ⟨rfl,HA0,hb1⟩;obtain⟨hc0,hx0,hz0,hB0,K,hA⟩:=HH.out;obtain⟨ev,QL,C1,E1,eq1⟩:=HA0;rw[q4] at E1;obtain⟨es,ec,rfl,-,-⟩:=E1.form;have hq:QL.length<=10:=by
  have h:=congrArg List.length eq1;rw[x8] at h;rw[h];split<;>simp
 have hB1:=hB0.trans (hb1.mono hz0);have HT:=ag (AL sb i V F s c cap at_ x vs vc fs fc _ false false w1 C1 (hc0.below hB1 (lR _)) (hx0.below hB1 (lR _)) K hA);have HQ:=ag eq1;have HCE:=ag (And.intro C1 E1);clear C1 E1 eq1 HC HH hc0 hx0 hz0 hB0 K hA hB1 hq s0 HSS;go_wp2_with fail;refine HT.out.mono ?_;rintro e w2 ⟨rfl,hb2⟩;have C2:=HCE.out.1.call hb2;have E2:=HCE.out.2.call hb2;have s15:=C2.1 15 _ rfl;have f15:=C2.2.2 15;have HF:Hid (cM sb (w2.setCell ⟨sb,15,nO⟩ (Bb (cQ (gAt x i.a)))) (λev'=>aW i V F s c cap at_ x vs vc fs fc ev' false (cQ (gAt x i.a))) [] (if cd (gAt x i.a) then [⟨at_+1,aY x i.a (bw (gAt x i.a))⟩] else [])):=⟨_,QL,C2.put 15 (by simp[aW]) _,by rw[q4];exact E2.same (λb _ hne _=>Below.heap_setCell _ _ _ _ hne) (by simp[World.setCell]),HQ.out⟩;have hbf:Below sb w (w2.setCell ⟨sb,15,nO⟩ (Bb (cQ (gAt x i.a)))):=(hb1.trans (hb2.mono (z9 HCE.out.1.2.1))).setCell (lR _) _;clear C2 E2 HT HCE HQ;go_wp2;first|go_end0|refine bodyPost_ret (results_none rfl _ _ _) rfl ?_
 exact⟨rfl,by rw[HLS.out];exact HF.out,hbf⟩
theorem Vv (sb:Nat)(i:Ins)(V F:Int)(s:oA)(c:lI)(cap:Nat)(at_:Int)(x:Pic)(vs:oA)(vc:Nat)(fs:oA)(fc:Nat)(w0 w:World)(hS:Cells w sb (aW i V F s c cap at_ x vs vc fs fc (U nO 0 0) false false))(hc0:CodeAt w0 s c)(hx0:PicAt w0 x vs fs)(hz0:w0.heap.size<=sb)(hB0:bl w0 w)(K:SCtx V F c x vc fc i at_)(hk:i.k=18):
  Calls pG 47 #[Pp (sO ⟨sb,0,nO⟩)] w λe w'=>e=Rt (Tu #[])/\cM sb w' (λev'=>aW i V F s c cap at_ x vs vc fs fc ev' false false) [] ([⟨at_+1,x⟩])/\Below sb w w':=by
 have ha0:=K.a0;have ha1:=ld;have HC:Hid (∀wx,wx=w->Calls pG 93 #[Pp (sO ⟨sb,0,nO⟩),I Y (at_+1),.func (.func 96) #[] #[]] wx λe w'=>e=Rt (Tu #[])/\cM sb w' (λev'=>aW i V F s c cap at_ x vs vc fs fc ev' false false) [] [⟨at_+1,x⟩]/\Below sb wx w'):=λwx hw=>by
  subst hw;refine(Pm sb (at_+1) x [] nO 0 sb i V F s c cap at_ x vs vc fs fc false false w0 wx hS hc0 hx0 hz0 hB0 K rfl (ERow.nil sb sb wx) ah (TU sb sb _ wx x)).mono ?_;rintro e w' ⟨h1,⟨ev',q,h2,h3,h4⟩,h5⟩;exact⟨h1,⟨ev',[q],h2,h3,by simp[h4]⟩,h5⟩
 have s0:=dG;rw[hk] at s0;have HSS:=ag hS;clear hS hc0 hx0 hB0 K hz0 hk;go_enter func47,ntmps47;go_wp2_with fail;refine(lA sb at_ _ w HSS.out rfl ha0 ha1).mono ?_;rintro e wz ⟨rfl,ew⟩;rw[ew];clear ew wz;exact Df
theorem UK (sb:Nat)(i:Ins)(V F:Int)(s:oA)(c:lI)(cap:Nat)(at_:Int)(x:Pic)(vs:oA)(vc:Nat)(fs:oA)(fc:Nat)(w0 w:World)(hS:Cells w sb (aW i V F s c cap at_ x vs vc fs fc (U nO 0 0) false false))(hc0:CodeAt w0 s c)(hx0:PicAt w0 x vs fs)(hz0:w0.heap.size<=sb)(hB0:bl w0 w)(K:SCtx V F c x vc fc i at_)(hk:i.k=19):
  Calls pG 47 #[Pp (sO ⟨sb,0,nO⟩)] w λe w'=>e=Rt (Tu #[])/\cM sb w' (λev'=>aW i V F s c cap at_ x vs vc fs fc ev' false false) [] ([])/\Below sb w w':=by
 have HA:Hid (cM sb w (λev'=>aW i V F s c cap at_ x vs vc fs fc ev' false false) [] []):=⟨_,[],hS,ERow.nil sb sb w,rfl⟩;have s0:=dG;rw[hk] at s0;clear hS hc0 hx0 hB0 K hz0 hk;go_enter func47,ntmps47;go_wp2;first|go_end0|refine bodyPost_ret (results_none rfl _ _ _) rfl ?_
 exact⟨rfl,HA.out,bR _ _⟩
theorem PO (sb:Nat)(i:Ins)(V F:Int)(s:oA)(c:lI)(cap:Nat)(at_:Int)(x:Pic)(vs:oA)(vc:Nat)(fs:oA)(fc:Nat)(ev:Value)(fl:Bool)(w0 w:World)(hS:Cells w sb (aW i V F s c cap at_ x vs vc fs fc ev false fl))(hc0:CodeAt w0 s c)(hx0:PicAt w0 x vs fs)(hz0:w0.heap.size<=sb)(hB0:bl w0 w)(K:SCtx V F c x vc fc i at_)(hT:nTo i.k=true)(h11:i.k≠11):
  Calls pG 98 #[Pp (sO ⟨sb,0,nO⟩)] w λe w'=>mE w.heap.size sb w' e (aZ i at_ x).1 (aW i V F s c cap at_ x vs vc fs fc ev (aZ i at_ x).2 fl)/\ModS sb w w':=by
 have h:i.k=1\/i.k=2\/i.k=3\/(4<=i.k/\i.k<=10)\/i.k=12\/i.k=14:=by
  unfold nTo btw at hT;simp at hT;omega
 rcases h with h|h|h|h|h|h
 ·exact UJ sb i V F s c cap at_ x vs vc fs fc ev fl w0 w hS hc0 hx0 hz0 hB0 K h
 ·exact Vu sb i V F s c cap at_ x vs vc fs fc ev fl w0 w hS hc0 hx0 hz0 hB0 K h
 ·exact Vw sb i V F s c cap at_ x vs vc fs fc ev fl w0 w hS hc0 hx0 hz0 hB0 K h
 ·exact Ug sb i V F s c cap at_ x vs vc fs fc ev fl w0 w hS hc0 hx0 hz0 hB0 K h.1 h.2
 ·exact Uu sb i V F s c cap at_ x vs vc fs fc ev fl w0 w hS hc0 hx0 hz0 hB0 K h
 ·exact Ub sb i V F s c cap at_ x vs vc fs fc ev fl w0 w hS hc0 hx0 hz0 hB0 K h
theorem SK (sb:Nat)(i:Ins)(V F:Int)(s:oA)(c:lI)(cap:Nat)(at_:Int)(x:Pic)(vs:oA)(vc:Nat)(fs:oA)(fc:Nat)(w0 w:World)(hS:Cells w sb (aW i V F s c cap at_ x vs vc fs fc (U nO 0 0) false false))(hc0:CodeAt w0 s c)(hx0:PicAt w0 x vs fs)(hz0:w0.heap.size<=sb)(hB0:bl w0 w)(K:SCtx V F c x vc fc i at_)(hT:nTo i.k=true)(h11:i.k≠11):
  Calls pG 47 #[Pp (sO ⟨sb,0,nO⟩)] w λe w'=>e=Rt (Tu #[])/\cM sb w' (λev'=>aW i V F s c cap at_ x vs vc fs fc ev' (aZ i at_ x).2 false) [] (if an (aZ i at_ x).1 then [] else [⟨at_+1,aY x i.tgt (aZ i at_ x).1⟩])/\Below sb w w':=by
 obtain⟨LST,hlst⟩:∃q:List Edg,q=if an (aZ i at_ x).1 then [] else [⟨at_+1,aY x i.tgt (aZ i at_ x).1⟩]:=⟨_,rfl⟩
 rw[<-hlst];have HLS:=ag hlst;clear hlst;have HC:=ag (PO sb i V F s c cap at_ x vs vc fs fc _ false w0 w hS hc0 hx0 hz0 hB0 K hT h11);have hck:aE c (aZ i at_ x).1=0:=by
  have h:=Ca (dC K.h0) K.kx K.a0 K.a1;rw[<-K.hi] at h;exact h
 have s0:=dG;have HSB:=ag hS.2.1;have hr:i.k=1\/i.k=2\/i.k=3\/(4<=i.k/\i.k<=10)\/i.k=12\/i.k=14:=by
  have h:=hT;unfold nTo btw at h;simp at h;omega
 have q11:(i.k==11)=false:=ap;have q13:(i.k==13)=false:=ap;have q15:(i.k==15)=false:=ap;have q16:(i.k==16)=false:=ap;have q17:(i.k==17)=false:=ap;have q18:(i.k==18)=false:=ap;have q19:(i.k==19)=false:=ap;have HH:=ag (And.intro hc0 (And.intro hx0 (And.intro hz0 (And.intro hB0 (And.intro K hT)))));clear hS hc0 hx0 hB0 K hz0 hr h11 hT;obtain⟨⟨g,wr⟩,hg⟩:∃q,q=aZ i at_ x:=⟨_,rfl⟩;rw[<-hg] at HC hck |-;have HGE:=ag hg;clear hg;go_enter func47,ntmps47;go_wp2_with fail;clear s0 q11 q13 q15 q16 q17 q18 q19;refine HC.out.mono ?_;rintro e w1 ⟨⟨⟨ss,gc,rfl,JI,J1,J2⟩,C1⟩,M1⟩;obtain⟨hc0,hx0,hz0,hB0,K,hT⟩:=HH.out;have HN:=ag (U9 g ss gc [] nO 0 sb i V F s c cap at_ x vs vc fs fc wr false w0 w1 C1 hc0 hx0 hz0 (hB0.trans (M1.1.mono hz0)) K (ERow.nil sb sb w1) ah (JI.mono λb hb _=>⟨ox,ox,λh=>aT⟩) J1 J2 hck hT);clear HC HH hc0 hx0 hz0 hB0 K hT JI J1 J2 C1 hck;go_wp2_with fail;refine HN.out.mono ?_;rintro e w2 ⟨rfl,HA0,hb2⟩;have HA:=ag HA0;clear HA0 HN;go_wp2;first|go_end0|refine bodyPost_ret (results_none rfl _ _ _) rfl ?_
 exact⟨rfl,by rw[HLS.out,<-HGE.out];exact HA.out,M1.1.trans hb2⟩
theorem Uv (sb:Nat)(i:Ins)(V F:Int)(s:oA)(c:lI)(cap:Nat)(at_:Int)(x:Pic)(vs:oA)(vc:Nat)(fs:oA)(fc:Nat)(w0 w:World)(hS:Cells w sb (aW i V F s c cap at_ x vs vc fs fc (U nO 0 0) false false))(hc0:CodeAt w0 s c)(hx0:PicAt w0 x vs fs)(hz0:w0.heap.size<=sb)(hB0:bl w0 w)(K:SCtx V F c x vc fc i at_):
  Calls pG 47 #[Pp (sO ⟨sb,0,nO⟩)] w λe w'=>e=Rt (Tu #[])/\cM sb w' (λev'=>aW i V F s c cap at_ x vs vc fs fc ev' (aA i at_ x).2.1 (aA i at_ x).2.2) [] ((aA i at_ x).1)/\Below sb w w':=by
 have hn:=K.kx.none;have hk:=(cl K.one).1;unfold btw at hk;simp only[Bool.and_eq_true,decide_eq_true_eq] at hk;by_cases h11:i.k=11
 ·have e:aA i at_ x=([⟨at_+1,(aY (gQ at_ x) i.tgt ⟨false,⟨true,0,0⟩,false,false,[at_]⟩)⟩],false,false):=by simp[aA,hn,h11,aZ,an,aP]
  rw[e];exact Vx sb i V F s c cap at_ x vs vc fs fc w0 w hS hc0 hx0 hz0 hB0 K h11
 by_cases h13:i.k=13
 ·have e:aA i at_ x=(if (gAt x i.a).s.length=0 then [] else [⟨at_+1,(dw x i.n (gAt x i.b) (gAt x i.a).s)⟩],bN (gAt x i.a),false):=by
   simp only[aA,hn,h13];simp only[Bool.false_eq_true,if_false];by_cases h:(gAt x i.a).s.length=0
   ·simp[h]
   ·simp[h]
  rw[e];exact VU sb i V F s c cap at_ x vs vc fs fc w0 w hS hc0 hx0 hz0 hB0 K h13
 by_cases h15:i.k=15
 ·have e:aA i at_ x=((if cd (gAt x i.a) then [⟨i.g,aY x i.a (bw (gAt x i.a))⟩] else [])++(if cQ (gAt x i.a) then [⟨at_+1,aY x i.a (b8 (gAt x i.a))⟩] else []),false,false):=by simp[aA,hn,h15]
  rw[e];exact UY sb i V F s c cap at_ x vs vc fs fc w0 w hS hc0 hx0 hz0 hB0 K h15
 by_cases h16:i.k=16
 ·have e:aA i at_ x=([⟨i.g,x⟩],false,false):=by simp[aA,hn,h16]
  rw[e];exact Vk sb i V F s c cap at_ x vs vc fs fc w0 w hS hc0 hx0 hz0 hB0 K h16
 by_cases h17:i.k=17
 ·have e:aA i at_ x=((if cd (gAt x i.a) then [⟨at_+1,aY x i.a (bw (gAt x i.a))⟩] else []),false,cQ (gAt x i.a)):=by simp[aA,hn,h17]
  rw[e];exact U0 sb i V F s c cap at_ x vs vc fs fc w0 w hS hc0 hx0 hz0 hB0 K h17
 by_cases h18:i.k=18
 ·have e:aA i at_ x=([⟨at_+1,x⟩],false,false):=by simp[aA,hn,h18]
  rw[e];exact Vv sb i V F s c cap at_ x vs vc fs fc w0 w hS hc0 hx0 hz0 hB0 K h18
 by_cases h19:i.k=19
 ·have e:aA i at_ x=([],false,false):=by simp[aA,hn,h19]
  rw[e];exact UK sb i V F s c cap at_ x vs vc fs fc w0 w hS hc0 hx0 hz0 hB0 K h19
 have hT:nTo i.k=true:=by
  unfold nTo btw;simp;omega
 have e:aA i at_ x=(if an (aZ i at_ x).1 then [] else [⟨at_+1,aY x i.tgt (aZ i at_ x).1⟩],(aZ i at_ x).2,false):=by
  simp only[aA,hn,h11,h13,h15,h16,h17,h18,h19,Bool.false_eq_true,if_false];split<;>rfl
 rw[e];exact SK sb i V F s c cap at_ x vs vc fs fc w0 w hS hc0 hx0 hz0 hB0 K hT h11
def lN (V F:Int)(c:lI)(at_:Int)(x:Pic):Int:=if aU V F c [x]=0 then(if at_ < 0\/(c.length:Int)<=at_ then 5 else 0) else aU V F c [x]
def mr (V F:Int)(c:lI)(at_:Int)(x:Pic):List Edg×Bool×Bool:=if lN V F c at_ x=0 then aA (bL c at_) at_ x else([],false,false)
def Gw (B:Nat)(w':World)(e:Ending)(r:List Edg×Bool×Bool)(er:Int):Prop:=∃es ec,e=Rt (Tu #[U es r.1.length ec,Bb r.2.1,Bb r.2.2,I Y er])/\EdsOn (λb=>B<=b) w' es r.1
theorem Nx {V F:Int}{c:lI}{x:Pic}(h:aU V F c [x]=0):au V F c=0/\aO V F c x=0:=by
 unfold aU at h;by_cases h0:au V F c=0
 ·rw[if_pos h0] at h
  unfold cV at h;by_cases h1:aO V F c x=0
  ·exact⟨h0,h1⟩
  ·rw[if_neg h1] at h;exact absurd h h1
 ·rw[if_neg h0] at h;exact absurd h h0
theorem mu {p:Prop}(h:p:=by
 have h:=Cells.new (w.alloc (.cells #[.int .i64 V,.int .i64 F,.slice s c.length cap] 24)) 28 [.bool x.none,.slice vs x.vq.length vc,.slice fs x.fq.length fc];rw[World.size_alloc] at h;exact h):p:=h
theorem RM (V F:Int)(s:oA)(c:lI)(cap:Nat)(at_:Int)(x:Pic)(vs:oA)(vc:Nat)(fs:oA)(fc:Nat)(w:World)(hc:CodeAt w s c)(hx:PicAt w x vs fs)(h1:x.vq.length<=vc/\vc<=maxLen)(h2:x.fq.length<=fc/\fc<=maxLen)(hu:aU V F c [x]≠0):
  Calls pG 15 #[pv V F s c cap,I Y at_,xv x vs vc fs fc] w λe w'=>Gw w.heap.size w' e ([],false,false) (aU V F c [x])/\bl w w':=by
 have hb0:=lD;have P0:=p9;have X0:Cells ((w.alloc (Cc #[I Y V,I Y F,U s c.length cap] 24)).alloc (Cc #[Bb x.none,U vs x.vq.length vc,U fs x.fq.length fc] 28)) (w.heap.size+1) [Bb x.none,U vs x.vq.length vc,U fs x.fq.length fc]:=by
  exact mu
 have HC:=rk;generalize aU V F c [x]=u at *;have hub:(u !=0)=true:=by simpa using hu
 clear hu hc hx;go_enter func15,ntmps15;go_wp2_with fail;refine HC.out.mono ?_;rintro e w1 ⟨rfl,hb1⟩;generalize ((w.alloc (Cc #[I Y V,I Y F,U s c.length cap] 24)).alloc (Cc #[Bb x.none,U vs x.vq.length vc,U fs x.fq.length fc] 28))=w0 at *;have B1:=ny;have P1:=gk;have X1:=X0.call hb1;clear P0 X0 hb0 hb1 HC;go_wp2;refine bodyPost_ret (v:=Tu #[U nO 0 0,Bb false,Bb false,I Y u]) uK rfl ⟨⟨nO,0,rfl,EdsOn.nil⟩,B1⟩
theorem Bn {p:Prop}(h:p:=by
 go_wp2;refine bodyPost_ret (v:=.tuple #[.slice none 0 0,.bool false,.bool false,.int .i64 5]) uK rfl ⟨⟨none,0,rfl,EdsOn.nil⟩,B1⟩):p:=h
theorem LU (V F:Int)(s:oA)(c:lI)(cap:Nat)(at_:Int)(x:Pic)(vs:oA)(vc:Nat)(fs:oA)(fc:Nat)(w:World)(hc:CodeAt w s c)(hx:PicAt w x vs fs)(h1:x.vq.length<=vc/\vc<=maxLen)(h2:x.fq.length<=fc/\fc<=maxLen)(hu:aU V F c [x]=0)(hr:at_ < 0\/(c.length:Int)<=at_):
  Calls pG 15 #[pv V F s c cap,I Y at_,xv x vs vc fs fc] w λe w'=>Gw w.heap.size w' e ([],false,false) 5/\bl w w':=by
 have hb0:=lD;have P0:=p9;have X0:Cells ((w.alloc (Cc #[I Y V,I Y F,U s c.length cap] 24)).alloc (Cc #[Bb x.none,U vs x.vq.length vc,U fs x.fq.length fc] 28)) (w.heap.size+1) [Bb x.none,U vs x.vq.length vc,U fs x.fq.length fc]:=by
  exact mu
 have HC:=rk;rw[hu] at HC;clear hu hc hx;go_enter func15,ntmps15;go_wp2_with fail;refine HC.out.mono ?_;rintro e w1 ⟨rfl,hb1⟩;generalize ((w.alloc (Cc #[I Y V,I Y F,U s c.length cap] 24)).alloc (Cc #[Bb x.none,U vs x.vq.length vc,U fs x.fq.length fc] 28))=w0 at *;have B1:=ny;have P1:=gk;have X1:=X0.call hb1;clear P0 X0 hb0 hb1 HC;have p2:=P1.1 2 _ rfl;by_cases h0:at_ < 0
 ·clear hr
  exact Bn
 ·have h3:(c.length:Int)<=at_:=by omega
  clear hr;exact Bn
theorem OE (V F:Int)(s:oA)(c:lI)(cap:Nat)(at_:Int)(x:Pic)(vs:oA)(vc:Nat)(fs:oA)(fc:Nat)(w:World)(hc:CodeAt w s c)(hx:PicAt w x vs fs)(h1:x.vq.length<=vc/\vc<=maxLen)(h2:x.fq.length<=fc/\fc<=maxLen)(hu:aU V F c [x]=0)(hr:¬(at_ < 0\/(c.length:Int)<=at_))(hn:x.none=true):
  Calls pG 15 #[pv V F s c cap,I Y at_,xv x vs vc fs fc] w λe w'=>Gw w.heap.size w' e ([],false,false) 0/\bl w w':=by
 have hb0:=lD;have P0:=p9;have X0:Cells ((w.alloc (Cc #[I Y V,I Y F,U s c.length cap] 24)).alloc (Cc #[Bb x.none,U vs x.vq.length vc,U fs x.fq.length fc] 28)) (w.heap.size+1) [Bb x.none,U vs x.vq.length vc,U fs x.fq.length fc]:=by
  exact mu
 have HC:=rk;rw[hu] at HC;have HNX:=ag hn;have r0:¬at_ < 0:=aa;have r1:¬(c.length:Int)<=at_:=aa;clear hu hc hx hn hr;go_enter func15,ntmps15;go_wp2_with fail;refine HC.out.mono ?_;rintro e w1 ⟨rfl,hb1⟩;generalize ((w.alloc (Cc #[I Y V,I Y F,U s c.length cap] 24)).alloc (Cc #[Bb x.none,U vs x.vq.length vc,U fs x.fq.length fc] 28))=w0 at *;have B1:=ny;have P1:=gk;have X1:=X0.call hb1;clear P0 X0 hb0 hb1 HC;have p2:=P1.1 2 _ rfl;have x0:=X1.1 0 _ rfl;rw[HNX.out] at x0;go_wp2;refine bodyPost_ret (v:=Tu #[U nO 0 0,Bb false,Bb false,I Y 0]) uK rfl ⟨⟨nO,0,rfl,EdsOn.nil⟩,B1⟩
theorem Tl (V F:Int)(s:oA)(c:lI)(cap:Nat)(at_:Int)(x:Pic)(vs:oA)(vc:Nat)(fs:oA)(fc:Nat)(w:World)(hc:CodeAt w s c)(hx:PicAt w x vs fs)(h1:x.vq.length<=vc/\vc<=maxLen)(h2:x.fq.length<=fc/\fc<=maxLen)(hu:aU V F c [x]=0)(hr:¬(at_ < 0\/(c.length:Int)<=at_))(hn:x.none=false):
  Calls pG 15 #[pv V F s c cap,I Y at_,xv x vs vc fs fc] w λe w'=>Gw w.heap.size w' e (aA (bL c at_) at_ x) 0/\bl w w':=by
 obtain⟨i,hi⟩:∃i,i=bL c at_:=⟨_,rfl⟩;rw[<-hi];obtain⟨k0,kx⟩:=Nx hu;have K:SCtx V F c x vc fc i at_:=⟨k0,cA kx hn,hi,aa,aa,h1,h2⟩;obtain⟨m,em⟩:=j9 K.a0;have ha1:=K.a1;have hm:=cS;have hcm:c[m]=i:=by rw[hi,em];unfold bL;simp[List.getD,hm]
 have HST:Hid (∀sb wx,Cells wx sb (aW i V F s c cap at_ x vs vc fs fc (U nO 0 0) false false)->w.heap.size<=sb->bl w wx->Calls pG 47 #[Pp (sO ⟨sb,0,nO⟩)] wx λe w'=>e=Rt (Tu #[])/\cM sb w' (λev'=>aW i V F s c cap at_ x vs vc fs fc ev' (aA i at_ x).2.1 (aA i at_ x).2.2) [] (aA i at_ x).1/\Below sb wx w'):=λsb wx hs hz hb=>Uv sb i V F s c cap at_ x vs vc fs fc w wx hs hc hx hz hb K;have HCA:=ag hc;have r0:¬at_ < 0:=aa;have r1:¬(c.length:Int)<=at_:=aa;have n0:=gj;have n1:=rP;have HCM:=ag hcm;have HNX:=ag hn;have hb0:=lD;have P0:=p9;have X0:Cells ((w.alloc (Cc #[I Y V,I Y F,U s c.length cap] 24)).alloc (Cc #[Bb x.none,U vs x.vq.length vc,U fs x.fq.length fc] 28)) (w.heap.size+1) [Bb x.none,U vs x.vq.length vc,U fs x.fq.length fc]:=by
  exact mu
 have HC:=rk;rw[hu] at HC;clear hu hc hx hn hr hi hcm K kx k0 ha1;obtain⟨⟨SL,wr,fl⟩,hst⟩:∃q,q=aA i at_ x:=⟨_,rfl⟩;rw[<-hst] at HST |-;clear hst;go_enter func15,ntmps15;go_wp2_with fail;refine HC.out.mono ?_;rintro e w1 ⟨rfl,hb1⟩;generalize ((w.alloc (Cc #[I Y V,I Y F,U s c.length cap] 24)).alloc (Cc #[Bb x.none,U vs x.vq.length vc,U fs x.fq.length fc] 28))=w0 at *;have B1:=ny;have P1:=gk;have X1:=X0.call hb1;clear P0 X0 hb0 hb1 HC;obtain⟨cb0,co,es,hcb,hci⟩:=HCA.out.get m hm;obtain⟨j0,j1,j2,j3,j4,j5⟩:=(hci m hm).below B1 hcb;rw[HCM.out] at j0 j1 j2 j3 j4 j5;have p2:=P1.1 2 _ rfl;have x0:=X1.1 0 _ rfl;rw[HNX.out] at x0;have hzz:w1.heap.size<=w1.drew.heap.size:=(bR w1.heap.size w1).drew.size;have D1:=go;have P2:=P1.call D1;have X2:=X1.call D1;have B2:=B1.trans (D1.mono B1.size);rw[HNX.out] at X2;have HKZ:Hid (∀wx,Below w1.drew.heap.size w1.drew wx->(wx.cell? ⟨w.heap.size,0,nO⟩=sO (I Y V)/\wx.cell? ⟨w.heap.size,1,nO⟩=sO (I Y F)/\wx.cell? ⟨w.heap.size,2,nO⟩=sO (U (sO ⟨cb0,co,nO⟩) c.length cap))/\(wx.cell? ⟨w.heap.size+1,0,nO⟩=sO (Bb false)/\wx.cell? ⟨w.heap.size+1,1,nO⟩=sO (U vs x.vq.length vc)/\wx.cell? ⟨w.heap.size+1,2,nO⟩=sO (U fs x.fq.length fc))/\(wx.cell? ⟨cb0,co+m * 6,nO⟩=sO (I Y i.k)/\wx.cell? ⟨cb0,co+m * 6+1,nO⟩=sO (I Y i.tgt)/\wx.cell? ⟨cb0,co+m * 6+2,nO⟩=sO (I Y i.a)/\wx.cell? ⟨cb0,co+m * 6+3,nO⟩=sO (I Y i.b)/\wx.cell? ⟨cb0,co+m * 6+4,nO⟩=sO (I Y i.n)/\wx.cell? ⟨cb0,co+m * 6+5,nO⟩=sO (I Y i.g))):=λwx hb=>by
  have p:=P2.call hb;have q:=X2.call hb;have bb:=B2.trans (hb.mono B2.size);have pp:=p.1 2 _ rfl;rw[es] at pp;refine⟨⟨p.1 0 _ rfl,p.1 1 _ rfl,pp⟩,⟨q.1 0 _ rfl,q.1 1 _ rfl,q.1 2 _ rfl⟩,?_⟩;have:=(hci m hm).below bb hcb;rw[HCM.out] at this;exact this
 have HES:=ag es;clear es hci j0 j1 j2 j3 j4 j5 P1 X1 D1 hzz;subst em;go_upto_region 8 with fail
 clear p2 x0 r0 r1;refine aG (S:=(λwx=>(wx.cell? ⟨w.heap.size,0,nO⟩=sO (I Y V)/\wx.cell? ⟨w.heap.size,1,nO⟩=sO (I Y F)/\wx.cell? ⟨w.heap.size,2,nO⟩=sO (U (sO ⟨cb0,co,nO⟩) c.length cap))/\(wx.cell? ⟨w.heap.size+1,0,nO⟩=sO (Bb false)/\wx.cell? ⟨w.heap.size+1,1,nO⟩=sO (U vs x.vq.length vc)/\wx.cell? ⟨w.heap.size+1,2,nO⟩=sO (U fs x.fq.length fc))/\(wx.cell? ⟨cb0,co+m * 6,nO⟩=sO (I Y i.k)/\wx.cell? ⟨cb0,co+m * 6+1,nO⟩=sO (I Y i.tgt)/\wx.cell? ⟨cb0,co+m * 6+2,nO⟩=sO (I Y i.a)/\wx.cell? ⟨cb0,co+m * 6+3,nO⟩=sO (I Y i.b)/\wx.cell? ⟨cb0,co+m * 6+4,nO⟩=sO (I Y i.n)/\wx.cell? ⟨cb0,co+m * 6+5,nO⟩=sO (I Y i.g)))) [10] ae (HKZ.out _ (bR _ _)) (λhHeld=> ?_);generalize w1.drew=w2 at *;refine vZ 0 ?_ ?_;refine vZ 1 ?_ ?_;refine vZ 2 ?_ ?_;refine vZ 3 ?_ ?_;refine vZ 4 ?_ ?_;refine vZ 5 ?_ ?_;refine vZ 6 ?_ ?_;refine vZ 7 ?_ ?_;refine vZ 8 ?_ ?_;refine aB (i:=9) rfl ae (λK hK=> ?_);go_simp;have hb3:Below w2.heap.size w2 (w2.alloc (Cc #[I Y 0,I Y 0,I Y 0,I Y 0,I Y 0,I Y 0,I Y 0,I Y 0,U nO 0 0,I Y 0,Bb false,U nO 0 0,U nO 0 0,U nO 0 0,Bb false,Bb false] 102)):=am;have S3:Cells (w2.alloc (Cc #[I Y 0,I Y 0,I Y 0,I Y 0,I Y 0,I Y 0,I Y 0,I Y 0,U nO 0 0,I Y 0,Bb false,U nO 0 0,U nO 0 0,U nO 0 0,Bb false,Bb false] 102)) w2.heap.size [I Y 0,I Y 0,I Y 0,I Y 0,I Y 0,I Y 0,I Y 0,I Y 0,U nO 0 0,I Y 0,Bb false,U nO 0 0,U nO 0 0,U nO 0 0,Bb false,Bb false]:=Cells.new w2 102 [I Y 0,I Y 0,I Y 0,I Y 0,I Y 0,I Y 0,I Y 0,I Y 0,U nO 0 0,I Y 0,Bb false,U nO 0 0,U nO 0 0,U nO 0 0,Bb false,Bb false];refine hK.out _ _ (HKZ.out _ hb3) (λhHeld=> ?_);clear hK K;refine sm ?_;generalize w2.alloc (Cc #[I Y 0,I Y 0,I Y 0,I Y 0,I Y 0,I Y 0,I Y 0,I Y 0,U nO 0 0,I Y 0,Bb false,U nO 0 0,U nO 0 0,U nO 0 0,Bb false,Bb false] 102)=w3 at *;generalize eSB:w2.heap.size=sb at *;refine bE (i:=10) rfl ae ae (λK hK=> ?_);have r0:=S3.1 0 _ rfl;have f0:=S3.2.2 0;have r1:=S3.1 1 _ rfl;have f1:=S3.2.2 1;have r2:=S3.1 2 _ rfl;have f2:=S3.2.2 2;have r3:=S3.1 3 _ rfl;have f3:=S3.2.2 3;have r4:=S3.1 4 _ rfl;have f4:=S3.2.2 4;have r5:=S3.1 5 _ rfl;have f5:=S3.2.2 5;have r6:=S3.1 6 _ rfl;have f6:=S3.2.2 6;have r7:=S3.1 7 _ rfl;have f7:=S3.2.2 7;have r8:=S3.1 8 _ rfl;have f8:=S3.2.2 8;have r9:=S3.1 9 _ rfl;have f9:=S3.2.2 9;have r10:=S3.1 10 _ rfl;have f10:=S3.2.2 10;have r11:=S3.1 11 _ rfl;have f11:=S3.2.2 11;have r12:=S3.1 12 _ rfl;have f12:=S3.2.2 12;have r13:=S3.1 13 _ rfl;have f13:=S3.2.2 13;have r14:=S3.1 14 _ rfl;have f14:=S3.2.2 14;have r15:=S3.1 15 _ rfl;have f15:=S3.2.2 15;go_simp;refine hK.out _ _ ?_;clear hK K r0 f0 r1 f1 r2 f2 r3 f3 r4 f4 r5 f5 r6 f6 r7 f7 r8 f8 r9 f9 r10 f10 r11 f11 r12 f12 r13 f13 r14 f14 r15 f15;refine sm ?_;refine aC ae ?_ _;have hs2:w2.heap.size<=sb:=aa;have C4:Cells ((((((((((((((((w3.setCell ⟨sb,0,nO⟩ (I Y i.k)).setCell ⟨sb,1,nO⟩ (I Y i.tgt)).setCell ⟨sb,2,nO⟩ (I Y i.a)).setCell ⟨sb,3,nO⟩ (I Y i.b)).setCell ⟨sb,4,nO⟩ (I Y i.n)).setCell ⟨sb,5,nO⟩ (I Y i.g)).setCell ⟨sb,6,nO⟩ (I Y V)).setCell ⟨sb,7,nO⟩ (I Y F)).setCell ⟨sb,8,nO⟩ (U (sO ⟨cb0,co,nO⟩) c.length cap)).setCell ⟨sb,9,nO⟩ (I Y (m:Int))).setCell ⟨sb,10,nO⟩ (Bb false)).setCell ⟨sb,11,nO⟩ (U vs x.vq.length vc)).setCell ⟨sb,12,nO⟩ (U fs x.fq.length fc)).setCell ⟨sb,13,nO⟩ (U nO 0 0)).setCell ⟨sb,14,nO⟩ (Bb false)).setCell ⟨sb,15,nO⟩ (Bb false)) sb (aW i V F s c cap (m:Int) x vs vc fs fc (U nO 0 0) false false):=by
  have h:=((((((((((((((((S3.put 0 dM (I Y i.k)).put 1 dM (I Y i.tgt)).put 2 dM (I Y i.a)).put 3 dM (I Y i.b)).put 4 dM (I Y i.n)).put 5 dM (I Y i.g)).put 6 dM (I Y V)).put 7 dM (I Y F)).put 8 dM (U (sO ⟨cb0,co,nO⟩) c.length cap)).put 9 dM (I Y (m:Int))).put 10 dM (Bb false)).put 11 dM (U vs x.vq.length vc)).put 12 dM (U fs x.fq.length fc)).put 13 dM (U nO 0 0)).put 14 dM (Bb false)).put 15 dM (Bb false));have e:aW i V F s c cap (m:Int) x vs vc fs fc (U nO 0 0) false false=[I Y i.k,I Y i.tgt,I Y i.a,I Y i.b,I Y i.n,I Y i.g,I Y V,I Y F,U (sO ⟨cb0,co,nO⟩) c.length cap,I Y (m:Int),Bb false,U vs x.vq.length vc,U fs x.fq.length fc,U nO 0 0,Bb false,Bb false]:=by unfold aW;rw[HNX.out,HES.out]
  rw[e];simp only[List.set_cons_zero,List.set_cons_succ] at h;exact h
 have B4:Below sb w2 ((((((((((((((((w3.setCell ⟨sb,0,nO⟩ (I Y i.k)).setCell ⟨sb,1,nO⟩ (I Y i.tgt)).setCell ⟨sb,2,nO⟩ (I Y i.a)).setCell ⟨sb,3,nO⟩ (I Y i.b)).setCell ⟨sb,4,nO⟩ (I Y i.n)).setCell ⟨sb,5,nO⟩ (I Y i.g)).setCell ⟨sb,6,nO⟩ (I Y V)).setCell ⟨sb,7,nO⟩ (I Y F)).setCell ⟨sb,8,nO⟩ (U (sO ⟨cb0,co,nO⟩) c.length cap)).setCell ⟨sb,9,nO⟩ (I Y (m:Int))).setCell ⟨sb,10,nO⟩ (Bb false)).setCell ⟨sb,11,nO⟩ (U vs x.vq.length vc)).setCell ⟨sb,12,nO⟩ (U fs x.fq.length fc)).setCell ⟨sb,13,nO⟩ (U nO 0 0)).setCell ⟨sb,14,nO⟩ (Bb false)).setCell ⟨sb,15,nO⟩ (Bb false)):=((((((((((((((((hb3.setCell (lR _) _).setCell (lR _) _).setCell (lR _) _).setCell (lR _) _).setCell (lR _) _).setCell (lR _) _).setCell (lR _) _).setCell (lR _) _).setCell (lR _) _).setCell (lR _) _).setCell (lR _) _).setCell (lR _) _).setCell (lR _) _).setCell (lR _) _).setCell (lR _) _).setCell (lR _) _);have hsb:w.heap.size<=sb:=uW;have BB:=B2.trans (B4.mono hsb);clear S3 hb3 B4 HKZ P2 X2;generalize ((((((((((((((((w3.setCell ⟨sb,0,nO⟩ (I Y i.k)).setCell ⟨sb,1,nO⟩ (I Y i.tgt)).setCell ⟨sb,2,nO⟩ (I Y i.a)).setCell ⟨sb,3,nO⟩ (I Y i.b)).setCell ⟨sb,4,nO⟩ (I Y i.n)).setCell ⟨sb,5,nO⟩ (I Y i.g)).setCell ⟨sb,6,nO⟩ (I Y V)).setCell ⟨sb,7,nO⟩ (I Y F)).setCell ⟨sb,8,nO⟩ (U (sO ⟨cb0,co,nO⟩) c.length cap)).setCell ⟨sb,9,nO⟩ (I Y (m:Int))).setCell ⟨sb,10,nO⟩ (Bb false)).setCell ⟨sb,11,nO⟩ (U vs x.vq.length vc)).setCell ⟨sb,12,nO⟩ (U fs x.fq.length fc)).setCell ⟨sb,13,nO⟩ (U nO 0 0)).setCell ⟨sb,14,nO⟩ (Bb false)).setCell ⟨sb,15,nO⟩ (Bb false))=w4 at *;go_wp2_with fail;refine(HST.out sb w4 C4 hsb BB).mono ?_;rintro e w5 ⟨rfl,⟨ev,QL,C5,E5,eq5⟩,hb5⟩;rw[q4] at E5;obtain⟨es,ec,rfl,-,-⟩:=E5.form;have hd:bl w5 w5.drew:=(bR _ _).drew;have CD:=C5.call hd;have ED:=E5.call hd;have BD:=(BB.trans (hb5.mono hsb)).drew;have HEQ:=ag eq5;clear C5 E5 C4 HST eq5;go_upto_region 10 with fail
 refine aG (S:=(λwx=>wx.cell? ⟨sb,13,nO⟩=sO (U es QL.length ec)/\wx.cell? ⟨sb,14,nO⟩=sO (Bb wr)/\wx.cell? ⟨sb,15,nO⟩=sO (Bb fl))) [] ae ⟨CD.1 13 _ rfl,CD.1 14 _ rfl,CD.1 15 _ rfl⟩ (λhHeld=> ?_);refine vZ 0 ?_ ?_;refine vZ 1 ?_ ?_;refine vZ 2 ?_ ?_;refine vZ 3 ?_ ?_;refine vZ 4 ?_ ?_;refine vZ 5 ?_ ?_;refine vZ 6 ?_ ?_;refine vZ 7 ?_ ?_;refine vZ 8 ?_ ?_;refine vZ 9 ?_ ?_;refine aC ae ?_ _;go_wp2;have hl:QL.length=SL.length:=by rw[<-HEQ.out];simp
 refine bodyPost_ret (v:=Tu #[U es QL.length ec,Bb wr,Bb fl,I Y 0]) uK rfl ⟨⟨es,ec,by rw[hl],?_⟩,BD⟩;have h:=ED.eds;rw[HEQ.out] at h;exact h.mono λb hb _=>aa
theorem Et (V F:Int)(s:oA)(c:lI)(cap:Nat)(at_:Int)(x:Pic)(vs:oA)(vc:Nat)(fs:oA)(fc:Nat)(w:World)(hc:CodeAt w s c)(hx:PicAt w x vs fs)(h1:x.vq.length<=vc/\vc<=maxLen)(h2:x.fq.length<=fc/\fc<=maxLen):
  Calls pG 15 #[pv V F s c cap,I Y at_,xv x vs vc fs fc] w λe w'=>Gw w.heap.size w' e (mr V F c at_ x) (lN V F c at_ x)/\bl w w':=by
 by_cases hu:aU V F c [x]=0
 ·by_cases hr:at_ < 0\/(c.length:Int)<=at_
  ·have e1:lN V F c at_ x=5:=by unfold lN;rw[if_pos hu,if_pos hr]
   have e2:mr V F c at_ x=([],false,false):=by unfold mr;rw[e1,if_neg (by decide)]
   rw[e1,e2];exact LU V F s c cap at_ x vs vc fs fc w hc hx h1 h2 hu hr
  ·have e1:lN V F c at_ x=0:=by unfold lN;rw[if_pos hu,if_neg hr]
   have e2:mr V F c at_ x=aA (bL c at_) at_ x:=by unfold mr;rw[e1,if_pos rfl]
   rw[e1,e2];by_cases hn:x.none=true
   ·have e3:aA (bL c at_) at_ x=([],false,false):=by unfold aA;rw[if_pos hn]
    rw[e3];exact OE V F s c cap at_ x vs vc fs fc w hc hx h1 h2 hu hr hn
   ·exact Tl V F s c cap at_ x vs vc fs fc w hc hx h1 h2 hu hr oT
 ·have e1:lN V F c at_ x=aU V F c [x]:=by unfold lN;rw[if_neg hu]
  have e2:mr V F c at_ x=([],false,false):=by unfold mr;rw[e1,if_neg hu]
  rw[e1,e2];exact RM V F s c cap at_ x vs vc fs fc w hc hx h1 h2 hu
def KeptC (Ch:Nat->Prop)(W W':World):Prop:=W.heap.size<=W'.heap.size/\∀b,¬Ch b->b < W.heap.size->W'.heap[b]? =W.heap[b]?
theorem KeptC.refl (Ch:Nat->Prop)(W:World):KeptC Ch W W:=⟨lR _,λ_ _ _=>rfl⟩
theorem KeptC.trans {Ch:Nat->Prop}{A B C:World}(h:KeptC Ch A B)(k:KeptC Ch B C):KeptC Ch A C:=⟨lT h.1 k.1,λb hb hlt=>(k.2 b hb (lL hlt h.1)).trans (h.2 b hb hlt)⟩
theorem KeptC.of {Ch:Nat->Prop}{A B:World}(h:bl A B):KeptC Ch A B:=⟨h.size,λb _ hlt=>h.block b hlt⟩
theorem KeptC.cells {Ch:Nat->Prop}{A B:World}(h:KeptC Ch A B){b:Nat}{cs:List Value}(hc:Cells A b cs)(hb:¬Ch b):Cells B b cs:=hc.same (h.2 b hb hc.2.1) h.1
def rW {σ:Type}(c:lI)(pics:σ->List Pic)(due:σ->Nat->Bool)(next:Nat->Edg->σ->σ)(t:σ)(k:Nat):σ:=if due t k then(cW c k (bm (pics t) k)).foldl (λt e=>next k e t) t else t
def kM {σ:Type}(c:lI)(pics:σ->List Pic)(due:σ->Nat->Bool)(next:Nat->Edg->σ->σ)(t:σ)(k:Nat):σ:=(q5 k).foldl (rW c pics due next) t
theorem vO {σ:Type}{c:lI}{pics:σ->List Pic}{due:σ->Nat->Bool}{next:Nat->Edg->σ->σ}{t:σ}{k:Nat}:kM c pics due next t (k+1)=rW c pics due next (kM c pics due next t k) k:=by unfold kM;rw[x9,q9];rfl
theorem Od {σ:Type}{V F:Int}{s:oA}{c:lI}{cap pb ib lb l n fd lc:Nat}{ls:oA}{cs:Array Value}{ar:Value->Array Value}(har:∀p,#[p]++cs=ar p)(hf:∀args wx,Sem.run pG (callFunc fd args) wx=.ok (.enter fd args) wx){pics:σ->List Pic}{due:σ->Nat->Bool}{next:Nat->Edg->σ->σ}{St:σ->World->Prop}{Stop:World->Prop}{Ch:Nat->Prop}
  (h0:au V F c=0)(t0:σ)(W:World)
  (hSt:∀t W W',St t W->bl W W'->St t W')
  (hRow:∀t W,St t W->XsAt W ls (pics t)/\XsOk V F c (pics t))
  (hDue:∀t W (k:Nat),St t W->k < c.length->Calls pG fd (ar (I Y (k:Int))) W λe W'=>e=Rt (Bb (due t k))/\bl W W')
  (hY:∀t W (k:Nat) (e:Edg) vs vc fs fc,St t W->k < c.length->(∃t1,e∈cW c k (bm (pics t1) k))->iP V F c e->PicOn (λb=>¬Ch b) W e.pic vs fs->(e.pic.vq.length<=vc/\vc<=maxLen)->(e.pic.fq.length<=fc/\fc<=maxLen)->YieldAt Fence.wide (n - 1) pG l #[I Y (k:Int),Ag #[I Y e.tgt,Bb e.pic.none,U vs e.pic.vq.length vc,U fs e.pic.fq.length fc]] W λr W'=>(r=Rt (Bb true)/\St (next k e t) W'/\KeptC Ch W W')\/(r=Rt (Bb false)/\Stop W'))
  (hcode:∀W W',KeptC Ch W W'->CodeAt W s c->CodeAt W' s c)(hCh:∀b,Ch b->b < W.heap.size)(hpb:¬Ch pb)(hib:¬Ch ib)(hlb:¬Ch lb)
  (hW:St t0 W)(hP:Cells W pb [I Y V,I Y F,U s c.length cap])(hI:Cells W ib [.func (.func fd) #[] cs])(hL:Cells W lb [U ls (c.length+1) lc])(hC:CodeAt W s c):
  CallsIn Fence.wide n pG 103 #[.func (.yield l) #[] #[],Pp (sO ⟨pb,0,nO⟩),Pp (sO ⟨ib,0,nO⟩),Pp (sO ⟨lb,0,nO⟩)] W λe W'=>(∃v,e=Rt v)/\((St (kM c pics due next t0 c.length) W'/\KeptC Ch W W')\/Stop W'):=by
 have h60:=kh;have HSt:=ag hSt;have HRow:=ag hRow;have HDue:=ag hDue;have HY:=ag hY;have HCO:=ag hcode;have HW:=ag hW;have HCK:=ag h0;clear hSt hRow hDue hY hcode hW h0;refine callsIn_of_wp func103 rfl trivial (wpIn_wide.2 ?_);simp only[ntmps103,J0,z7,J3,J4,J5,Array.replicate_succ,Array.replicate_zero,J6,J7,q4,J8];have p2:=hP.1 2 _ rfl;go_wp2;clear p2;go_loopw [15] (λi wr=>∃k:Nat,k<=c.length/\i=I Y k/\Hid (St (kM c pics due next t0 k) wr)/\KeptC Ch W wr) (λi _=>c.length - (intOf i).toNat)
 case atStart=>exact⟨0,j7 _,rfl,HW.out,KeptC.refl _ _⟩
 case round=>
  obtain⟨k,hk,rfl,HS,hkr⟩:=hrel;have P1:=hkr.cells hP hpb;have I1:=hkr.cells hI hib;have L1:=hkr.cells hL hlb;by_cases hlt:k < c.length;rotate_left
  ·have n1:=lw
   have ek:=iS;have HF:Hid (St (kM c pics due next t0 c.length) wr):=by show St _ _;rw[<-ek];exact HS.out
   clear ek HS;go_wp2;go_end0;exact⟨⟨_,rfl⟩,.inl ⟨HF.out,hkr⟩⟩
  have n0:=bA;have n1:=gF;have i0:=I1.1 0 _ rfl;go_wp2_with fail;refine(HDue.out _ wr k HS.out hlt).mono ?_;rintro e w1 ⟨rfl,hb1⟩;have k1:KeptC Ch W w1:=hkr.trans (KeptC.of hb1);have HS1:=ag (HSt.out _ _ _ HS.out hb1);have P2:=P1.call hb1;have L2:=L1.call hb1;clear HS hb1 i0 P1 I1 L1;obtain⟨t,et⟩:∃t,t=kM c pics due next t0 k:=⟨_,rfl⟩
  have HT:=ag (vO (c:=c) (pics:=pics) (due:=due) (next:=next) (t:=t0) (k:=k));rw[<-et] at HS1 HT |-;clear et;rcases j8 (due t k) with hd|hd;rotate_left
  ·have HD:=ag hd
   rw[hd];clear hd;go_wp2;go_roundw
   case rel=>exact⟨k+1,aa,aF,by show St _ _;rw[HT.out];unfold rW;rw[HD.out];exact HS1.out,k1⟩
   case measure=>exact aK
  ·have HD:=ag hd
   rw[hd];clear hd;obtain⟨hX,hXO⟩:=HRow.out _ _ HS1.out;have hxl:k < (pics t).length:=by rw[hXO.len];omega
   obtain⟨rb,ro,els,zrb,vx,vxc,fx,fxc,⟨q0,q1,q2⟩,hPx,hvx,hfx⟩:=hX k hxl;obtain⟨x,ex⟩:∃x,x=(pics t)[k]:=⟨_,rfl⟩;have hckx:aO V F c x=0:=by rw[ex];exact hXO.ck _ (gM hxl)
   have HEX:Hid (bm (pics t) (k:Int)=x):=by show _=_;rw[gZ hxl,ex]
   rw[<-ex] at q0 q1 q2 hPx hvx hfx;clear ex;have C1:=HCO.out _ _ k1 hC;have HSF:Hid (∀wx,bl w1 wx->Calls pG 15 #[pv V F s c cap,I Y (k:Int),xv x vx vxc fx fxc] wx λe w'=>(∃es ec,e=Rt (Tu #[U es (cW c k x).length ec,Bb (aA (bL c k) k x).2.1,Bb (aA (bL c k) k x).2.2,I Y 0])/\EdsOn (λb=>w1.heap.size<=b) w' es (cW c k x))/\bl wx w'):=λwx hb=>by
    have hu:aU V F c [x]=0:=by unfold aU;rw[if_pos HCK.out];unfold cV;rw[if_pos hckx];rfl
    have e0:=Ip;have e1:=FL;have h:=Et V F s c cap (k:Int) x vx vxc fx fxc wx (C1.below hb (lR _)) (hPx.below hb (lR _)) hvx hfx;rw[e0,e1] at h;refine h.mono ?_;rintro e w' ⟨⟨es,ec,rfl,hE⟩,hb'⟩;exact⟨⟨es,ec,rfl,hE.mono λb h _=>lT hb.size h⟩,hb'⟩
   have HEO:=ag (kG HCK.out hckx hlt);subst els;have HKZ:Hid (∀wx,bl w1 wx->(wx.cell? ⟨pb,0,nO⟩=sO (I Y V)/\wx.cell? ⟨pb,1,nO⟩=sO (I Y F)/\wx.cell? ⟨pb,2,nO⟩=sO (U s c.length cap))/\wx.cell? ⟨lb,0,nO⟩=sO (U (sO ⟨rb,ro,nO⟩) (c.length+1) lc)/\(wx.cell? ⟨rb,ro+k * 3,nO⟩=sO (Bb x.none)/\wx.cell? ⟨rb,ro+k * 3+1,nO⟩=sO (U vx x.vq.length vxc)/\wx.cell? ⟨rb,ro+k * 3+2,nO⟩=sO (U fx x.fq.length fxc))):=λwx hb=>by
    have p:=P2.call hb;have q:=L2.call hb;refine⟨⟨p.1 0 _ rfl,p.1 1 _ rfl,p.1 2 _ rfl⟩,q.1 0 _ rfl,?_,?_,?_⟩
    ·rw[hb.cell (by simp only;exact zrb)];exact q0
    ·rw[hb.cell (by simp only;exact zrb)];exact q1
    ·rw[hb.cell (by simp only;exact zrb)];exact q2
   have B12:=go;have m1:=sD;generalize (aA (bL c k) k x).2.1=sw at *;generalize (aA (bL c k) k x).2.2=sf at *;have HST:Hid (rW c pics due next t k=(cW c k x).foldl (λt e=>next k e t) t):=by show _=_;unfold rW;rw[HD.out,if_pos rfl,HEX.out]
   have HELE:Hid ((cW c k x).length<=10):=lT (vF _ _ _) ai;have HM:Hid (∀e∈cW c k x,∃t1,e∈cW c k (bm (pics t1) k)):=λe he=>⟨t,by rw[HEX.out];exact he⟩;generalize cW c k x=E at *;go_upto_region 4 with fail
   refine aG (S:=(λwx=>(wx.cell? ⟨pb,0,nO⟩=sO (I Y V)/\wx.cell? ⟨pb,1,nO⟩=sO (I Y F)/\wx.cell? ⟨pb,2,nO⟩=sO (U s c.length cap))/\wx.cell? ⟨lb,0,nO⟩=sO (U (sO ⟨rb,ro,nO⟩) (c.length+1) lc)/\(wx.cell? ⟨rb,ro+k * 3,nO⟩=sO (Bb x.none)/\wx.cell? ⟨rb,ro+k * 3+1,nO⟩=sO (U vx x.vq.length vxc)/\wx.cell? ⟨rb,ro+k * 3+2,nO⟩=sO (U fx x.fq.length fxc)))) [] ae (HKZ.out _ B12) (λhHeld=> ?_);generalize w1.drew=w2 at *;refine vZ 0 ?_ ?_;refine vZ 1 ?_ ?_;refine vZ 2 ?_ ?_;refine vZ 3 ?_ ?_;refine vZ 4 ?_ ?_;refine vZ 5 ?_ ?_;refine aB (i:=6) rfl ae (λK hK=> ?_);go_simp;go_at_call 15;refine(HSF.out w2 B12).mono ?_;rintro e w3 ⟨⟨es,ec,rfl,E3⟩,hb3⟩;go_wp2_with fail;refine hK.out _ _ (HKZ.out _ (B12.trans (hb3.mono B12.size))) (λhHeld=> ?_);clear hK K;refine sm ?_;refine vZ 7 ?_ ?_;refine vZ 8 ?_ ?_;refine vZ 9 ?_ ?_;refine vZ 10 ?_ ?_;refine vZ 11 ?_ ?_;refine vZ 12 ?_ ?_;refine vZ 13 ?_ ?_;refine vZ 14 ?_ ?_;refine vZ 15 ?_ ?_;refine aC ae ?_ _;have HS3:=ag (HSt.out _ _ _ HS1.out (B12.trans (hb3.mono B12.size)));have k3:KeptC Ch W w3:=k1.trans (KeptC.of (B12.trans (hb3.mono B12.size)));have HN:Hid (∀b,w1.heap.size<=b->¬Ch b):=λb hb hc=>by have:=hCh b hc;have:=k1.1;omega
   have HEL:Hid (E.length<=10):=HELE.out;clear B12 hb3 HS1 P2 L2 hX hXO C1 HSF HKZ q0 q1 q2 hPx hvx hfx hckx;go_wp2;go_loopw [36] (λi wr=>∃j:Nat,j<=E.length/\i=I Y j/\Hid (St ((E.take j).foldl (λt e=>next k e t) t) wr)/\KeptC Ch w3 wr) (λi _=>E.length - (intOf i).toNat)
   case atStart=>exact⟨0,j7 _,rfl,HS3.out,KeptC.refl _ _⟩
   case round=>
    obtain⟨j,hj,rfl,HSj,hkj⟩:=hrel;have hl10:=HEL.out;by_cases hltj:j < E.length;rotate_left
    ·have n2:¬(j:Int) < (E.length:Int):=by omega
     have HF:Hid (St (kM c pics due next t0 (k+1)) wr):=by
      show St _ _;have h:=HSj.out;rw[x4 aa] at h;rw[HT.out,HST.out];exact h
     have k4:=k3.trans hkj;clear HSj HS3;go_wp2;go_roundw
     case rel=>exact⟨k+1,aa,aF,HF.out,k4⟩
     case measure=>exact aK
    have j0:(0:Int)<=(j:Int):=aa;have j1:(j:Int) < (E.length:Int):=aa;have EJ:=E3.same (w':=wr) (λb hb hlt=>hkj.2 b (HN.out b hb) hlt) hkj.1;obtain⟨eb,eo,ees,hSb,zeb,vs,vc,fs,fc,⟨c0,c1,c2,c3⟩,hPe,hve,hfe⟩:=EJ j hltj;have hba:Below wr.heap.size wr (wr.alloc (Cc #[I Y E[j].tgt,Bb E[j].pic.none,U vs E[j].pic.vq.length vc,U fs E[j].pic.fq.length fc] 45)):=am;obtain⟨fn,tmps,assign,body,hy,hR⟩:=HY.out _ _ k E[j] vs vc fs fc (HSt.out _ _ _ HSj.out hba) hlt (HM.out _ (gM hltj)) (HEO.out _ (gM hltj)) ((hPe.mono λb hb _=>HN.out b hb).call hba) hve hfe;have HTK:Hid ((E.take (j+1)).foldl (λt e=>next k e t) t=next k E[j] ((E.take j).foldl (λt e=>next k e t) t)):=by show _=_;rw[J9 hltj,q9];rfl
    have kba:KeptC Ch w3 (wr.alloc (Cc #[I Y E[j].tgt,Bb E[j].pic.none,U vs E[j].pic.vq.length vc,U fs E[j].pic.fq.length fc] 45)):=hkj.trans (KeptC.of hba);subst ees;have NX:Cells (wr.alloc (Cc #[I Y E[j].tgt,Bb E[j].pic.none,U vs E[j].pic.vq.length vc,U fs E[j].pic.fq.length fc] 45)) wr.heap.size [I Y E[j].tgt,Bb E[j].pic.none,U vs E[j].pic.vq.length vc,U fs E[j].pic.fq.length fc]:=Cells.new wr _ [I Y E[j].tgt,Bb E[j].pic.none,U vs E[j].pic.vq.length vc,U fs E[j].pic.fq.length fc];clear EJ hPe HSj HS3;go_upto_region 8 with fail
    clear c0 c1 c2 c3;generalize wr.alloc (Cc #[I Y E[j].tgt,Bb E[j].pic.none,U vs E[j].pic.vq.length vc,U fs E[j].pic.fq.length fc] 45)=wy at *;have c0:=NX.1 0 _ rfl;have c1:=NX.1 1 _ rfl;have c2:=NX.1 2 _ rfl;have c3:=NX.1 3 _ rfl;refine(wpIn_wide (n:=n)).1 ?_
    gi_wp2
    refine⟨λh=>(by cases h),hR.mono ?_⟩;rintro e W3 (⟨rfl,hS4,hk4⟩|⟨rfl,hstop⟩)
    ·have HS4:=ag hS4
     clear hS4 hR hy c0 c1 c2 c3 NX;have k5:=kba.trans hk4
     gi_wp2
     go_wp2;go_roundw
     case rel=>exact⟨j+1,aa,aF,by show St _ _;rw[HTK.out];exact HS4.out,k5⟩
     case measure=>exact aK
    ·clear hR hy c0 c1 c2 c3 NX
     have HSP:=ag hstop;clear hstop
     gi_wp2
     go_wp2;refine bodyPost_ret (results_none rfl _ _ _) rfl ?_;exact⟨⟨_,rfl⟩,.inr HSP.out⟩
theorem Rg (V F:Int)(s:oA)(c:lI)(cap:Nat)(ls:oA)(pl pc dc sb db vb nb k:Nat)(n:Int)(D:List Int)(w:World)(hV:Cells w vb [Pp (sO ⟨sb,0,nO⟩)])(hN:Cells w nb [I Y n])(hst:Cells w sb [I Y V,I Y F,U s c.length cap,U ls pl pc,U (sO ⟨db,0,nO⟩) D.length dc])(hD:DRow w db D)(hk:k < D.length)(hm:D.length<=maxLen):
  Calls pG 99 #[I Y (k:Int),Pp (sO ⟨vb,0,nO⟩),Pp (sO ⟨nb,0,nO⟩)] w λe w'=>e=Rt (Bb (D[k]==n))/\bl w w':=by
 have HS:Hid (w.drew.cell? ⟨vb,0,nO⟩=sO (Pp (sO ⟨sb,0,nO⟩))/\w.drew.cell? ⟨nb,0,nO⟩=sO (I Y n)/\w.drew.cell? ⟨sb,4,nO⟩=sO (U (sO ⟨db,0,nO⟩) D.length dc)/\w.drew.cell? ⟨db,k,nO⟩=sO (I Y D[k])):=by
  have b:=lB;exact⟨(hV.call b).1 0 _ rfl,(hN.call b).1 0 _ rfl,(hst.call b).1 4 _ rfl,(hD.call b).get hk⟩
 have B34:=lB;generalize D[k]=d at *;have m0:=bA;have m1:(k:Int) < (D.length:Int):=aa;go_enter func99,ntmps99;go_upto_region 1 with fail
 refine aG (S:=(λwx=>wx.cell? ⟨vb,0,nO⟩=sO (Pp (sO ⟨sb,0,nO⟩))/\wx.cell? ⟨nb,0,nO⟩=sO (I Y n)/\wx.cell? ⟨sb,4,nO⟩=sO (U (sO ⟨db,0,nO⟩) D.length dc)/\wx.cell? ⟨db,k,nO⟩=sO (I Y d))) [] ae HS.out (λhHeld=> ?_);refine vZ 0 ?_ ?_;refine vZ 1 ?_ ?_;refine vZ 2 ?_ ?_;refine vZ 3 ?_ ?_;refine vZ 4 ?_ ?_;refine vZ 5 ?_ ?_;refine vZ 6 ?_ ?_;refine vZ 7 ?_ ?_;refine vZ 8 ?_ ?_;refine vZ 9 ?_ ?_;refine aC ae ?_ _;go_wp2;go_ret;exact⟨rfl,B34⟩
theorem NR (V F:Int)(s:oA)(c:lI)(cap:Nat)(ls:oA)(len lc fd:Nat)(cs:Array Value)(w:World):
  Calls pG 53 #[pv V F s c cap,U ls len lc,.func (.func fd) #[] cs] w λe w'=>e=Rt (.func (.func 103) #[] #[Pp (sO ⟨w.heap.size,0,nO⟩),Pp (sO ⟨w.heap.size+1+1,0,nO⟩),Pp (sO ⟨w.heap.size+1,0,nO⟩)])/\(Cells w' w.heap.size [I Y V,I Y F,U s c.length cap]/\Cells w' (w.heap.size+1) [U ls len lc]/\Cells w' (w.heap.size+1+1) [.func (.func fd) #[] cs])/\bl w w':=by
 go_enter func53,ntmps53;go_wp2;go_ret;refine⟨rfl,⟨(Cells.new w _ [_,_,_]).call am,?_,?_⟩,am⟩
 ·have h:=Cells.new (w.alloc (Cc #[I Y V,I Y F,U s c.length cap] 24)) 47 [U ls len lc]
  rw[j6] at h;exact h.call am
 ·have h:=Cells.new ((w.alloc (Cc #[I Y V,I Y F,U s c.length cap] 24)).alloc (Cc #[U ls len lc] 47)) 70 [.func (.func fd) #[] cs]
  rw[j6,j6] at h;exact h
theorem Vf {P:Program}{d:Code}{K:Act->World->Prop}{Q:Exit->Act->World->Prop}{a:Act}{w:World}(h:d.wp P (Exit.then K (λ_ _ _=>False)) a w):d.wp P (Exit.then K Q) a w:=wp_mono h λe a w q=>by
 cases e<;>first|exact q|exact q.elim
section
variable {w W W':World} {V F:Int} {s:oA} {c:lI} {cap:Nat} {ls:oA} {len lc:Nat}
end
attribute [local go_sem] Oper.semAt_some
end
section
open Go.RowKit
attribute [local go_sem ↓] Go.wp_at_zero Go.wp_at_succ
theorem UN {c:lI}{n:Int}{t:List Pic×List Int×Bool}{k:Nat}:rW c (λt:List Pic×List Int×Bool=>t.1) (λt k=>t.2.1.getD k 0==n) (λk e t=>cN n k t e) t k=iu c n t k:=by
 unfold rW iu;by_cases h:t.2.1.getD k 0=n
 ·rw[if_pos h,if_pos cq]
 ·rw[if_neg h,if_neg cq]
theorem Kg {c:lI}{n:Int}{t:List Pic×List Int×Bool}:∀{k:Nat},kM c (λt:List Pic×List Int×Bool=>t.1) (λt k=>t.2.1.getD k 0==n) (λk e t=>cN n k t e) t k=(q5 k).foldl (iu c n) t
 |0=>rfl
 |k+1=>by rw[vO,Kg,UN,x9,q9];rfl
theorem SZ {V F:Int}{c:lI}(h0:au V F c=0){n i:Int}{t:List Pic×List Int×Bool}{e:Edg}(h:XsOk V F c t.1)(hd:t.2.1.length=c.length+1)(he:iP V F c e):XsOk V F c (cN n i t e).1/\(cN n i t e).2.1.length=c.length+1:=by
 obtain⟨b1,-⟩:=rV (n:=n) (i:=i) (s:=(t.1,t.2.2)) h0 h he;have e1:(bV n i (t.1,t.2.2) e).1=(cN n i t e).1:=by rw[<-pT]
 rw[e1] at b1;refine⟨b1,?_⟩;unfold cN;split
 ·exact hd
 ·simpa using hd
theorem KeptC.code {Ch:Nat->Prop}{W W':World}{s:oA}{c:lI}(h:KeptC Ch W W')(hs:∀a,s=sO a->¬Ch a.block)(hc:CodeAt W s c):CodeAt W' s c:=by
 rcases hc with hi|⟨b,off,e,hb,hc⟩
 ·exact .inl hi
 ·refine .inr ⟨b,off,e,lL hb h.1,λk hk=> ?_⟩
  obtain⟨h0,h1,h2,h3,h4,h5⟩:=hc k hk;have hB:=h.2 b (hs _ e) hb;refine⟨?_,?_,?_,?_,?_,?_⟩<;>rw[World.cell?_of_block hB]<;>assumption
theorem KeptC.mono {Ch Ch':Nat->Prop}{W W':World}(h:KeptC Ch W W')(hs:∀b,Ch b->Ch' b):KeptC Ch' W W':=⟨h.1,λb hb hlt=>h.2 b (λhc=>hb (hs b hc)) hlt⟩
theorem RU {w:World}{s:oA}{c:lI}{pb db cb:Nat}(hC:CodeAt w s c)(hsC:c≠[]->∀a,s=sO a->a.block≠pb/\a.block≠db)(hcb:w.heap.size<=cb):∀W W',KeptC (λb=>b=pb\/b=db\/b=cb) W W'->CodeAt W s c->CodeAt W' s c:=by
 by_cases hcn:c=[]
 ·exact λ_ _ _ _=>.inl hcn
 ·rcases hC with h|⟨b,off,e,hb,-⟩
  ·exact absurd h hcn
  intro W W' hk h;refine hk.code (λa ha=> ?_) h;have h1:=hsC hcn a ha;have h2:a.block=b:=by rw[e] at ha;cases ha;rfl
  rintro (h|h|h)
  ·exact h1.1 h
  ·exact h1.2 h
  ·omega
theorem PicOn.drop {S:Nat->Prop}{W:World}{x:Pic}{vs fs:oA}{l:Nat}{r:Loop}(h:PicOn S W x vs fs)(hl:W.heap[l]? =sO (.loop r)):PicOn (λb=>S b/\b≠l) W x vs fs:=λw2 h2 hz=>by
 have hlz:=(q7.1 hl).1;have h3:PicAt (w2.putObj l (.loop r)) x vs fs:=h _ (λb hb hlt=>by
  by_cases e:b=l
  ·subst e;rw[x5 aa,hl]
  ·rw[q8 e];exact h2 b ⟨hb,e⟩ hlt) (by simpa[z8] using hz)
 refine CellsKept.pic (W:=w2.putObj l (.loop r)) ⟨by simp[z8],λb k v hv=> ?_⟩ h3;by_cases e:b=l
 ·subst e
  exfalso;have e2:(w2.putObj b (.loop r)).heap[b]? =sO (.loop r):=x5 aa;simp only[World.cell?,e2] at hv;cases hv
 ·rw[World.cell?_of_block (a:=⟨b,k,nO⟩) (q8 e)] at hv
  exact hv
theorem Tb {F:Fence}{m:Nat}{P:Program}{c d:Code}{Q:Exit->Act->World->Prop}{a:Act}{w:World}(h:∀K:Act->World->Prop,Hid (∀a w,d.wpIn F m P Q a w->K a w)->c.wpIn F m P (Exit.then K (λ_ _ _=>False)) a w):(c.seq d).wpIn F m P Q a w:=wpIn_seq (El (h _ λ_ _ h=>h))
theorem Gf {V F:Int}{s:oA}{c:lI}{cap:Nat}{x y:Pic}{vs1:oA}{vc1:Nat}{fs1:oA}{fc1:Nat}{vs2:oA}{vc2:Nat}{fs2:oA}{fc2:Nat}{w:World}(h0:au V F c=0)(hx0:aO V F c x=0)(hy0:aO V F c y=0)(hcd:CodeAt w s c)(hx:PicAt w x vs1 fs1)(h1:x.vq.length<=vc1/\vc1<=maxLen)(h2:x.fq.length<=fc1/\fc1<=maxLen)(hy:PicAt w y vs2 fs2)(h3:y.vq.length<=vc2/\vc2<=maxLen)(h4:y.fq.length<=fc2/\fc2<=maxLen):Calls pG 32 #[pv V F s c cap,xv x vs1 vc1 fs1 fc1,xv y vs2 vc2 fs2 fc2] w λe w'=>l8 w.heap.size w' e (aH (aj false) x y) 0/\bl w w':=by
 have hk:aU V F c [x,y]=0:=Mg;have h:=Ww V F s c cap x vs1 vc1 fs1 fc1 y vs2 vc2 fs2 fc2 w hcd hx h1 h2 hy h3 h4;rw[if_pos hk,hk,(lK h0 hx0 hy0).1] at h;exact h
theorem Tx {V F:Int}{s:oA}{c:lI}{cap:Nat}{x y:Pic}{vs1:oA}{vc1:Nat}{fs1:oA}{fc1:Nat}{vs2:oA}{vc2:Nat}{fs2:oA}{fc2:Nat}{w:World}(h0:au V F c=0)(hx0:aO V F c x=0)(hy0:aO V F c y=0)(hcd:CodeAt w s c)(hx:PicAt w x vs1 fs1)(h1:x.vq.length<=vc1/\vc1<=maxLen)(h2:x.fq.length<=fc1/\fc1<=maxLen)(hy:PicAt w y vs2 fs2)(h3:y.vq.length<=vc2/\vc2<=maxLen)(h4:y.fq.length<=fc2/\fc2<=maxLen):Calls pG 33 #[pv V F s c cap,xv x vs1 vc1 fs1 fc1,xv y vs2 vc2 fs2 fc2] w λe w'=>l8 w.heap.size w' e (aH (aj true) x y) 0/\bl w w':=by
 have hk:aU V F c [x,y]=0:=Mg;have h:=WE V F s c cap x vs1 vc1 fs1 fc1 y vs2 vc2 fs2 fc2 w hcd hx h1 h2 hy h3 h4;rw[if_pos hk,hk,(lK h0 hx0 hy0).2] at h;exact h
structure RndAt (S:Nat->Prop) (w:World) (V F:Int) (s:oA) (c:lI) (cap sb pb pc db dc:Nat) (n:Int) (t:List Pic×List Int×Bool) (W:World):Prop where
 vs:Cells W w.heap.size [Pp (sO ⟨sb,0,nO⟩)]
 vn:Cells W (w.heap.size+1) [I Y n]
 vc:Cells W (w.heap.size+1+1) [Bb t.2.2]
 st:Cells W sb [I Y V,I Y F,U s c.length cap,U (sO ⟨pb,0,nO⟩) t.1.length pc,U (sO ⟨db,0,nO⟩) t.2.1.length dc]
 pr:PRow S W pb t.1
 dr:DRow W db t.2.1
 xs:XsOk V F c t.1
 ln:t.2.1.length=c.length+1
 kp:KeptC (λb=>b=pb\/b=db) w W
 lo:∀{B:Nat} {a:World},B<=pb->B<=db->B<=w.heap.size->Below B a w->Below B a W
section
variable {S:Nat->Prop} {w W W':World} {V F:Int} {s:oA} {c:lI} {cap sb pb pc db dc:Nat} {n:Int} {t:List Pic×List Int×Bool}
theorem RndAt.below (h:RndAt S w V F s c cap sb pb pc db dc n t W)(hb:bl W W'):RndAt S w V F s c cap sb pb pc db dc n t W':=⟨h.vs.call hb,h.vn.call hb,h.vc.call hb,h.st.call hb,h.pr.call hb,h.dr.call hb,h.xs,h.ln,h.kp.trans (KeptC.of hb),λh1 h2 h3 h4=>(h.lo h1 h2 h3 h4).trans (hb.mono (lT h3 h.kp.1))⟩
theorem RndAt.mono {S':Nat->Prop}(h:RndAt S w V F s c cap sb pb pc db dc n t W)(hs:∀b,S b->b < W.heap.size->S' b):RndAt S' w V F s c cap sb pb pc db dc n t W:=⟨h.vs,h.vn,h.vc,h.st,h.pr.mono hs,h.dr,h.xs,h.ln,h.kp,h.lo⟩
theorem RndAt.round {l:Nat}(h:RndAt S w V F s c cap sb pb pc db dc n t W)(hO:RoundAt l W W')(hl:w.heap.size+1+1 < l)(hsb:sb≠l)(hpb:pb≠l)(hdb:db≠l)(hS:∀b,S b->b≠l):RndAt S w V F s c cap sb pb pc db dc n t W':=
 have hz:W.heap.size<=W'.heap.size:=by rw[hO.size];exact lR _
 ⟨h.vs.same (hO.far _ aa) hz,h.vn.same (hO.far _ aa) hz,h.vc.same (hO.far _ aa) hz,h.st.same (hO.far _ hsb) hz,h.pr.far (hO.far _ hpb) (λb hb _=>hO.far b (hS b hb)) hz,h.dr.far (hO.far _ hdb) hz,h.xs,h.ln,⟨lT h.kp.1 hz,λb hb hlt=>(hO.far b aa).trans (h.kp.2 b hb hlt)⟩,λh1 h2 h3 h4=>hO.low aa (h.lo h1 h2 h3 h4)⟩
theorem Uw {W5 wq W6:World}{L:List Pic}{D:List Int}(h:RndAt S w V F s c cap sb pb pc db dc n t W5)(e:Hid (wq=bD W5 (w.heap.size+1+1) 0 [Bb true]))(hs:iE S wq W6 pb db L D)(hn:pb < w.heap.size/\db < w.heap.size/\sb≠pb/\sb≠db/\sb < w.heap.size)(hl:L.length=t.1.length/\D.length=t.2.1.length)(hx:XsOk V F c L/\D.length=c.length+1)(hS:∀b,S b->b≠w.heap.size+1+1):
  RndAt S w V F s c cap sb pb pc db dc n (L,D,true) W6/\KeptC (λb=>b=pb\/b=db\/b=w.heap.size+1+1) W5 W6/\∀b,b≠pb->b≠db->b≠w.heap.size+1+1->b < W5.heap.size->W6.heap[b]? =W5.heap[b]? :=by
 have PQ:=bO h.vc 0 _ e.out;obtain⟨s1,s2,s3,s4,s5⟩:=hs;obtain⟨a1,a2,a3,a4,a5⟩:=hn;have F:∀b,b≠pb->b≠db->b≠w.heap.size+1+1->b < W5.heap.size->W6.heap[b]? =W5.heap[b]? :=λb h1 h2 h3 h4=>(s3 b h1 h2 (lL h4 PQ.size)).trans (PQ.far b h3);have Z:W5.heap.size<=W6.heap.size:=lT PQ.size s4;refine⟨⟨h.vs.same (F _ aa aa aa h.vs.2.1) Z,h.vn.same (F _ aa aa aa h.vn.2.1) Z,PQ.cells.same (s3 _ aa aa PQ.cells.2.1) s4,?_,s1,s2,hx.1,hx.2,⟨lT h.kp.1 Z,λb hb hlt=> ?_⟩,λh1 h2 h3 h4=>s5 h1 h2 (lT h3 (lT h.kp.1 PQ.size)) (PQ.low aa (h.lo h1 h2 h3 h4))⟩,⟨Z,λb hb hlt=> ?_⟩,F⟩
 ·have q:=h.st.same (F sb a3 a4 aa h.st.2.1) Z
  rw[<-hl.1,<-hl.2] at q;exact q
 ·have hb':¬(b=pb\/b=db):=hb
  have:=h.kp.1;rw[F b aa aa aa aa];exact h.kp.2 b hb hlt
 ·have hb':¬(b=pb\/b=db\/b=w.heap.size+1+1):=hb
  exact F b aa aa aa hlt
theorem Bj {Ch:Nat->Prop}{Wa W2 W3:World}{l D:Nat}{r:Loop}(hl:LoopAt W l D r)(hb:bl W Wa)(hO:RoundAt l Wa W2)(h3:KeptC Ch W2 W3):KeptC Ch W (W3.putObj l (.loop r)):=by
 have z:W.heap.size<=W3.heap.size:=lT hb.size (by rw[<-hO.size];exact h3.1);have hlz:=(q7.1 hl.lp).1;refine⟨by simpa[z8] using z,λb hc hlt=> ?_⟩;by_cases e:b=l
 ·subst e
  rw[x5 aa,hl.lp]
 ·rw[q8 e,h3.2 b hc (by rw[hO.size];have:=hb.size;omega),hO.far b e,hb.block b hlt]
end
theorem Sl {S:Nat->Prop}{V F:Int}{s:oA}{c:lI}{cap sb pb pc db dc:Nat}{n:Int}{L:List Pic}{D:List Int}{w w5 w6 W1:World}{fn:FuncId}{tmps:Array Value}{ps:Array Tmp}{assign body:Code}
  (h0:au V F c=0)(hC:CodeAt w s c)(hCK:∀W W',KeptC (λb=>b=pb\/b=db\/b=w.heap.size+1+1) W W'->CodeAt W s c->CodeAt W' s c)(hz:w.heap.size+1+1 < w5.heap.size)(hpb:pb < w.heap.size)(hdb:db < w.heap.size)(hb:bl w6 W1)(hl:LoopAt W1 (w6.heap.size+1) w6.heap.size (dY fn tmps ps assign body w6.heap.size .ready nO))(hR:RndAt S w V F s c cap sb pb pc db dc n (L,D,false) W1)
  (EP:Cells w6 w5.heap.size [I Y V,I Y F,U s c.length cap])(EL:Cells w6 (w5.heap.size+1) [U (sO ⟨pb,0,nO⟩) L.length pc])(EF:Cells w6 (w5.heap.size+1+1) [.func (.func 99) #[] #[Pp (sO ⟨w.heap.size,0,nO⟩),Pp (sO ⟨w.heap.size+1,0,nO⟩)]])
  (hY:∀(t:List Pic×List Int×Bool) W (k:Nat) (e:Edg) vs vc fs fc,RndAt S w V F s c cap sb pb pc db dc n t W->LoopAt W (w6.heap.size+1) w6.heap.size (dY fn tmps ps assign body w6.heap.size .ready nO)->iP V F c e->PicOn (λb=>¬(b=pb\/b=db\/b=w.heap.size+1+1)) W e.pic vs fs->(e.pic.vq.length<=vc/\vc<=maxLen)->(e.pic.fq.length<=fc/\fc<=maxLen)->YieldAt Fence.wide (5 - 1 - 1) pG (w6.heap.size+1) #[I Y (k:Int),Ag #[I Y e.tgt,Bb e.pic.none,U vs e.pic.vq.length vc,U fs e.pic.fq.length fc]] W λr W'=>r=Rt (Bb true)/\LoopAt W' (w6.heap.size+1) w6.heap.size (dY fn tmps ps assign body w6.heap.size .ready nO)/\RndAt S w V F s c cap sb pb pc db dc n (cN n k t e) W'/\KeptC (λb=>b=pb\/b=db\/b=w.heap.size+1+1) W W'):
  CallsIn Fence.wide (5 - 1) pG 103 (#[.func (.yield (w6.heap.size+1)) #[] #[]]++#[Pp (sO ⟨w5.heap.size,0,nO⟩),Pp (sO ⟨w5.heap.size+1+1,0,nO⟩),Pp (sO ⟨w5.heap.size+1,0,nO⟩)]) W1 λe W'=>(∃v,e=Rt v)/\((LoopAt W' (w6.heap.size+1) w6.heap.size (dY fn tmps ps assign body w6.heap.size .ready nO)/\RndAt S w V F s c cap sb pb pc db dc n (fW c n (L,D)) W')\/∃c',LoopAt W' (w6.heap.size+1) w6.heap.size (dY fn tmps ps assign body w6.heap.size .done (sO c'))/\False):=by
 have hz6:=EF.2.1;have hzb:=hb.size;refine(Od (σ:=List Pic×List Int×Bool) (V:=V) (F:=F) (s:=s) (c:=c) (cap:=cap) (pb:=w5.heap.size) (ib:=w5.heap.size+1+1) (lb:=w5.heap.size+1) (l:=w6.heap.size+1) (n:=5 - 1) (fd:=99) (lc:=pc) (ls:=sO ⟨pb,0,nO⟩) (cs:=#[Pp (sO ⟨w.heap.size,0,nO⟩),Pp (sO ⟨w.heap.size+1,0,nO⟩)]) (ar:=λp=>#[p,Pp (sO ⟨w.heap.size,0,nO⟩),Pp (sO ⟨w.heap.size+1,0,nO⟩)]) (λ_=>ah) (enters_of func99 ae rfl) (pics:=λt=>t.1) (due:=λt k=>t.2.1.getD k 0==n) (next:=λk e t=>cN n k t e)
  (St:=λt W=>RndAt S w V F s c cap sb pb pc db dc n t W/\LoopAt W (w6.heap.size+1) w6.heap.size (dY fn tmps ps assign body w6.heap.size .ready nO))
  (Stop:=λ_=>False)
  (Ch:=λb=>b=pb\/b=db\/b=w.heap.size+1+1) h0 (L,D,false) W1 ?_ ?_ ?_ ?_ hCK (λb h=>aa) aa aa aa ⟨hR,hl⟩ (EP.call hb) (EF.call hb) (by rw[<-hR.xs.len];exact EL.call hb) (hCK _ _ (hR.kp.mono λb h=>h.imp id Or.inl) hC)).mono ?_
 ·exact λt W W' h hb=>⟨h.1.below hb,h.2.below hb⟩
 ·exact λt W h=>⟨h.1.pr.xs,h.1.xs⟩
 ·intro t W k h hk
  have hk':k < t.2.1.length:=by rw[h.1.ln];omega
  have h60:=kh;have q:=Rg V F s c cap _ _ pc dc sb db _ _ k n t.2.1 W h.1.vs h.1.vn h.1.st h.1.dr hk' (by rw[h.1.ln];unfold maxLen;omega);have e:t.2.1.getD k 0=t.2.1[k]:=by simp[List.getD,hk']
  rw[e];exact q
 ·rintro t W k e vs vc fs fc ⟨hR1,hl1⟩ hk - hok hp hv hf
  refine(hY t W k e vs vc fs fc hR1 hl1 hok hp hv hf).mono ?_;rintro r W' ⟨e1,e2,e3,e4⟩;exact .inl ⟨e1,⟨e3,e2⟩,e4⟩
 ·rintro e W' ⟨hv,⟨⟨h1,h2⟩,h4⟩|h⟩
  ·rw[Kg] at h1
   exact⟨hv,.inl ⟨h2,h1⟩⟩
  ·exact h.elim
theorem L8 {X:World}{D0:Nat}{b:Bool}{tmps:Array Value}{R:Ending->World->Prop}(hD:X.heap[D0]? =sO (.deferred (sO [])))(h4:tmps[4]?.getD undef=Bb b)(hR:R (Rt (Bb b)) (X.putObj D0 (.deferred nO))):
  bodyPostM Fence.wide 5 pG Tryz.f49 R .ret ⟨tmps,[{target:=.collected D0,args:=#[]}]⟩ X:=
 ⟨ah,.inl ⟨D0,_,rfl,run_takeDeferred hD,Bb b,by simp[results,results49,go_sem,h4],hR⟩⟩
attribute [local go_sem] Oper.semAt_some
theorem sJ {p:Prop}(h:p:=by
 gi_wp2_with fail
 refine⟨trivial,(CallsIn.inRound _ (callsIn_wide.2 HCL.out)).mono ?_⟩;rintro e6 W6 ⟨⟨ve,rfl⟩,SS⟩;obtain⟨N1,N2,N3⟩:=Uw R5 ewq0 SS ⟨hpb,hdb,hsp.1,hsp.2,hsb⟩ ⟨ah,ah⟩ (by have:=SZ (n:=n) (i:=k) h0 R5.xs R5.ln hok;rw[HED.out] at this;exact this) (λb hb=>(hS b hb).2.2.1);have hl6:=hl5.far (N3 _ aa aa aa hlz5) (N3 _ aa aa aa hDz5);clear HCL SS
 gi_wp2
 exact⟨hl6,hl6.put aa _,by rw[HED.out];exact N1.round (hl6.round _) (by omega) (by omega) (by omega) (by omega) (λb hb=>(hS b hb).2.2.2),Bj Hl.out HBA.out HO.out ((KeptC.of HB25.out).trans N2)⟩):p:=h
theorem N8 {S0:Nat->Prop}(V F:Int)(s:oA)(c:lI)(cap sb pb pc db dc:Nat)(n:Int)(L:List Pic)(D:List Int)(w:World)(h0:au V F c=0)(hst:Cells w sb [I Y V,I Y F,U s c.length cap,U (sO ⟨pb,0,nO⟩) L.length pc,U (sO ⟨db,0,nO⟩) D.length dc])(hP:PRow S0 w pb L)(hDr:DRow w db D)(hC:CodeAt w s c)(hpd:pb≠db)(hsp:sb≠pb/\sb≠db)(hS0:∀b,S0 b->b≠pb/\b≠db)(hS2:∀b,w.heap.size<=b->S0 b)(hsC:c≠[]->∀a,s=sO a->a.block≠pb/\a.block≠db)(hX:XsOk V F c L)(hDl:D.length=c.length+1)(hnw:IntKind.i64.wrap (n+1)=n+1):
  Calls pG 49 #[Pp (sO ⟨sb,0,nO⟩),I Y n] w λe w'=>e=Rt (Bb (fW c n (L,D)).2.2)/\iE S0 w w' pb db (fW c n (L,D)).1 (fW c n (L,D)).2.1:=by
 have hpb:=nk;have hdb:db < w.heap.size:=hDr.choose_spec.1.2.1;have hsb:sb < w.heap.size:=hst.2.1;have hCK:=RU hC hsC (cb:=w.heap.size+1+1) aa;have h60:=kh;have hmx:61<=maxLen:=ai;have R3:RndAt (λb=>S0 b/\b < w.heap.size) w V F s c cap sb pb pc db dc n (L,D,false) (((w.alloc (Cc #[Pp (sO ⟨sb,0,nO⟩)] 103)).alloc (Cc #[I Y n] 3)).alloc (Cc #[Bb false] 4)):=by
  have B:Below w.heap.size w (((w.alloc (Cc #[Pp (sO ⟨sb,0,nO⟩)] 103)).alloc (Cc #[I Y n] 3)).alloc (Cc #[Bb false] 4)):=am;refine⟨(Cells.new w _ [_]).call am,?_,?_,hst.call B,(hP.mono λb h1 h2=>⟨h1,h2⟩).call B,hDr.call B,hX,hDl,KeptC.of B,λh1 h2 h3 h4=>h4.trans (B.mono h3)⟩
  ·have h:=Cells.new (w.alloc (Cc #[Pp (sO ⟨sb,0,nO⟩)] 103)) 3 [I Y n]
   rw[j6] at h;exact h.call am
  ·have h:=Cells.new ((w.alloc (Cc #[Pp (sO ⟨sb,0,nO⟩)] 103)).alloc (Cc #[I Y n] 3)) 4 [Bb false]
   rw[j6,j6] at h;exact h
 obtain⟨t1,et1⟩:∃t,t=fW c n (L,D):=⟨_,rfl⟩;have HT1:=ag et1;rw[<-et1];clear et1;refine callsIn_wide.1 (callsIn_of_wp_marks (n:=5) func49 rfl trivial (wpIn_wide.2 ?_) rfl);simp only[ntmps49,J0,z7,J3,J4,J5,Array.replicate_succ,Array.replicate_zero,J6,J7,q4,J8];go_upto_region 3 with fail
 generalize (((w.alloc (Cc #[Pp (sO ⟨sb,0,nO⟩)] 103)).alloc (Cc #[I Y n] 3)).alloc (Cc #[Bb false] 4))=w3 at *;have HKZ:Hid (∀wx,bl w3 wx->wx.cell? ⟨w.heap.size,0,nO⟩=sO (Pp (sO ⟨sb,0,nO⟩))/\(wx.cell? ⟨sb,0,nO⟩=sO (I Y V)/\wx.cell? ⟨sb,1,nO⟩=sO (I Y F)/\wx.cell? ⟨sb,2,nO⟩=sO (U s c.length cap)/\wx.cell? ⟨sb,3,nO⟩=sO (U (sO ⟨pb,0,nO⟩) L.length pc))):=λwx hb=>by
  have v:=R3.vs.call hb;have p:=R3.st.call hb;exact⟨v.1 0 _ rfl,p.1 0 _ rfl,p.1 1 _ rfl,p.1 2 _ rfl,p.1 3 _ rfl⟩
 have B34:bl w3 w3.drew:=(bR _ _).drew;have HR3:=ag R3;have z3:=R3.vc.2.1;clear R3;refine Vf ?_;refine aG (S:=(λwx=>wx.cell? ⟨w.heap.size,0,nO⟩=sO (Pp (sO ⟨sb,0,nO⟩))/\(wx.cell? ⟨sb,0,nO⟩=sO (I Y V)/\wx.cell? ⟨sb,1,nO⟩=sO (I Y F)/\wx.cell? ⟨sb,2,nO⟩=sO (U s c.length cap)/\wx.cell? ⟨sb,3,nO⟩=sO (U (sO ⟨pb,0,nO⟩) L.length pc)))) [] ae (HKZ.out _ B34) (λhHeld=> ?_);generalize w3.drew=w4 at *;refine vZ 0 ?_ ?_;refine vZ 1 ?_ ?_;refine vZ 2 ?_ ?_;refine vZ 3 ?_ ?_;refine vZ 4 ?_ ?_;refine vZ 5 ?_ ?_;refine vZ 6 ?_ ?_;refine vZ 7 ?_ ?_;refine vZ 8 ?_ ?_;refine aB (i:=9) rfl ae (λK hK=> ?_);go_simp;go_at_call 53;refine(NR V F s c cap _ L.length pc 99 #[Pp (sO ⟨w.heap.size,0,nO⟩),Pp (sO ⟨w.heap.size+1,0,nO⟩)] w4).mono ?_;rintro e w6 ⟨rfl,⟨EP,EL,EF⟩,hb6⟩;go_wp2_with fail;refine hK.out _ _ (HKZ.out _ (B34.trans (hb6.mono B34.size))) (λhHeld=> ?_);clear hK K;refine sm ?_;refine aC ae ?_ _;have hb36:=B34.trans (hb6.mono B34.size);have z4:=B34.size;have z6:=EF.2.1;have HR6:=ag (HR3.out.below hb36);have HOLD:=ag hst;clear HR3 HKZ hHeld hb36 hb6 hst hP hDr;go_wp2;refine wpIn_wide.1 (OL (n:=5) (gf:=103) (lb:=#[Pp (sO ⟨w4.heap.size,0,nO⟩),Pp (sO ⟨w4.heap.size+1+1,0,nO⟩),Pp (sO ⟨w4.heap.size+1,0,nO⟩)]) rfl (enters_of func103 ae rfl) (λ_ _ _ W=>RndAt (λb=>S0 b/\b≠w.heap.size+1+1/\b≠w6.heap.size+1/\b≠w6.heap.size) w V F s c cap sb pb pc db dc n t1 W) (λ_ _ _ _ _=>False) ?hit ?hdone ?hstop)
 case hstop=>
  intro r c' W hl hf;exact hf.elim
 case hdone=>
  rintro r W hl hR r';have hl2:=hl.round r';have hR2:=hR.round hl2 aa aa aa aa (λb hb=>hb.2.2.1);have hD:(W.putObj (w6.heap.size+1) r').heap[w6.heap.size]? =sO (.deferred (sO [])):=(q8 aa).trans hl.dfr;clear hR hl hl2 EP EL EF HR6 HOLD;generalize W.putObj (w6.heap.size+1) r'=X at *;have r0:=hR2.vc.1 0 _ rfl;go_simp;go_wp2;refine L8 hD rfl ?_;have hs:X.heap.size<=(X.putObj w6.heap.size (.deferred nO)).heap.size:=by simp[z8]
  have far:∀b,b≠w6.heap.size->(X.putObj w6.heap.size (.deferred nO)).heap[b]? =X.heap[b]? :=λb hb=>q8 hb;refine⟨rfl,?_,hR2.dr.far (far db aa) hs,λb h1 h2 hlt=>(far b aa).trans (hR2.kp.2 b aa hlt),lT hR2.kp.1 hs,λ{B} {a} h1 h2 h3 h4=>(hR2.lo h1 h2 h3 h4).trans (belowK_b (n₀:=B) (w:=w) h3 X w6.heap.size _ _ aa hD rfl rfl)⟩;exact(hR2.pr.far (far pb aa) (λb hb _=>far b hb.2.2.2) hs).mono λb hb _=>hb.1
 case hit=>
  intro fn W1 hl hbW;rw[HT1.out];refine Sl (S:=λb=>S0 b/\b≠w.heap.size+1+1/\b≠w6.heap.size+1/\b≠w6.heap.size) h0 hC hCK aa hpb hdb hbW hl ((HR6.out.mono λb hb _=>⟨hb.1,aa,aa,aa⟩).below hbW) EP EL EF ?_;clear hl hbW HR6 EP EL EF W1 HOLD;obtain⟨S,hSe⟩:∃S:Nat->Prop,S=λb=>S0 b/\b≠w.heap.size+1+1/\b≠w6.heap.size+1/\b≠w6.heap.size:=⟨_,rfl⟩;have hS2:∀b,w6.heap.size+1 < b->S b:=λb hb=>by rw[hSe];exact⟨hS2 b (by omega),by omega,by omega,by omega⟩
  have hS:∀b,S b->b≠pb/\b≠db/\b≠w.heap.size+1+1/\b≠w6.heap.size+1:=λb hb=>by rw[hSe] at hb;exact⟨(hS0 b hb.1).1,(hS0 b hb.1).2,hb.2.1,hb.2.2.1⟩
  rw[<-hSe];clear hSe;have hpb:pb < w.heap.size:=hpb;intro t W k e vs vc fs fc hR hl hok hp hv hf;refine TC hl rfl ?_
  gi_wp2
  have hba:Below W.heap.size W (W.alloc (Cc #[I Y e.tgt,Bb e.pic.none,U vs e.pic.vq.length vc,U fs e.pic.fq.length fc] 45)):=am;have hbox:Cells (W.alloc (Cc #[I Y e.tgt,Bb e.pic.none,U vs e.pic.vq.length vc,U fs e.pic.fq.length fc] 45)) W.heap.size [I Y e.tgt,Bb e.pic.none,U vs e.pic.vq.length vc,U fs e.pic.fq.length fc]:=Cells.new W _ [_,_,_,_];have hlz:=(q7.1 hl.lp).1;have Hl:=ag hl;refine LE hl aa hba ?_;clear hl;intro W2 hl2 hO;have zO:=hO.size;have za:=hba.size;have zc:=hR.vc.2.1;have R2:=(hR.below hba).round hO aa aa aa aa (λb hb=>(hS b hb).2.2.2);have BX2:=hbox.same (hO.far _ aa) aa;have hp2:=(((hp.drop Hl.out.lp).call hba).same (λb hb _=>hO.far b hb.2) aa).mono λb hb _=>hb.1;have C2:=hCK _ _ (R2.kp.mono λb hb=>hb.imp id Or.inl) hC;obtain⟨q,hq⟩:=j9 hok.2.1;have hqL:q < t.1.length:=by have:=R2.xs.len;have:=hok.2.2;omega
  obtain⟨vy,vyc,fy,fyc,⟨q0,q1,q2⟩,hPy,hvy,hfy,hpz,-⟩:=R2.pr.cell hqL;obtain⟨y,ey⟩:∃y,y=t.1[q]:=⟨_,rfl⟩;have HEY:Hid (bm t.1 e.tgt=y):=by show _=_;rw[hq,ey];exact gZ hqL
  have hcky:aO V F c y=0:=by rw[ey];exact R2.xs.ck _ (gM hqL)
  rw[<-ey] at q0 q1 q2 hPy hvy hfy;have HY0:=ag ey;clear ey;have hck2:aU V F c [e.pic,y]=0:=by unfold aU;rw[if_pos h0];unfold cV;rw[if_pos hok.1];unfold cV;rw[if_pos hcky];rfl
  have HWI:Hid (∀wx,bl W2 wx->Calls pG 51 #[pv V F s c cap,xv e.pic vs vc fs fc,xv y vy vyc fy fyc] wx λe' w'=>e'=Rt (Bb (bJ e.pic y))/\bl wx w'):=λwx hb=>by
   have h:=FE V F s c cap e.pic vs vc fs fc y vy vyc fy fyc wx (C2.below hb (lR _)) (hp2.at.below hb (lR _)) hv hf (hPy.at.below hb (lR _)) hvy hfy;rw[if_pos hck2] at h;exact h
  rw[hq] at BX2;have HKZ:Hid (∀wx,bl W2 wx->wx.cell? ⟨w.heap.size,0,nO⟩=sO (Pp (sO ⟨sb,0,nO⟩))/\(wx.cell? ⟨sb,0,nO⟩=sO (I Y V)/\wx.cell? ⟨sb,1,nO⟩=sO (I Y F)/\wx.cell? ⟨sb,2,nO⟩=sO (U s c.length cap)/\wx.cell? ⟨sb,3,nO⟩=sO (U (sO ⟨pb,0,nO⟩) t.1.length pc))/\(wx.cell? ⟨W.heap.size,0,nO⟩=sO (I Y (q:Int))/\wx.cell? ⟨W.heap.size,1,nO⟩=sO (Bb e.pic.none)/\wx.cell? ⟨W.heap.size,2,nO⟩=sO (U vs e.pic.vq.length vc)/\wx.cell? ⟨W.heap.size,3,nO⟩=sO (U fs e.pic.fq.length fc))/\(wx.cell? ⟨pb,q * 3,nO⟩=sO (Bb y.none)/\wx.cell? ⟨pb,q * 3+1,nO⟩=sO (U vy y.vq.length vyc)/\wx.cell? ⟨pb,q * 3+2,nO⟩=sO (U fy y.fq.length fyc))):=λwx hb=>by
   have v:=R2.vs.call hb;have p:=R2.st.call hb;have g:=BX2.call hb;exact⟨v.1 0 _ rfl,⟨p.1 0 _ rfl,p.1 1 _ rfl,p.1 2 _ rfl,p.1 3 _ rfl⟩,⟨g.1 0 _ rfl,g.1 1 _ rfl,g.1 2 _ rfl,g.1 3 _ rfl⟩,by rw[hb.cell hpz];exact q0,by rw[hb.cell hpz];exact q1,by rw[hb.cell hpz];exact q2⟩
  have B34:bl W2 W2.drew:=(bR _ _).drew;have m0:=kg;have m1:(q:Int) < (t.1.length:Int):=aa;have HIB:Hid (bJ e.pic (bm t.1 e.tgt)=bJ e.pic y):=by show _=_;rw[HEY.out]
  generalize bJ e.pic y=ib at *;refine wpIn_block (wpIn_seq (wpIn_seq (El ?_)));refine Vd (S:=(λwx=>wx.cell? ⟨w.heap.size,0,nO⟩=sO (Pp (sO ⟨sb,0,nO⟩))/\(wx.cell? ⟨sb,0,nO⟩=sO (I Y V)/\wx.cell? ⟨sb,1,nO⟩=sO (I Y F)/\wx.cell? ⟨sb,2,nO⟩=sO (U s c.length cap)/\wx.cell? ⟨sb,3,nO⟩=sO (U (sO ⟨pb,0,nO⟩) t.1.length pc))/\(wx.cell? ⟨W.heap.size,0,nO⟩=sO (I Y (q:Int))/\wx.cell? ⟨W.heap.size,1,nO⟩=sO (Bb e.pic.none)/\wx.cell? ⟨W.heap.size,2,nO⟩=sO (U vs e.pic.vq.length vc)/\wx.cell? ⟨W.heap.size,3,nO⟩=sO (U fs e.pic.fq.length fc))/\(wx.cell? ⟨pb,q * 3,nO⟩=sO (Bb y.none)/\wx.cell? ⟨pb,q * 3+1,nO⟩=sO (U vy y.vq.length vyc)/\wx.cell? ⟨pb,q * 3+2,nO⟩=sO (U fy y.fq.length fyc)))) [] ae (by simp[Dh]) Wr (HKZ.out _ B34) (λhHeld=> ?_);generalize W2.drew=w4 at *;refine vZ 0 ?_ ?_;refine vZ 1 ?_ ?_;refine vZ 2 ?_ ?_;refine vZ 3 ?_ ?_;refine vZ 4 ?_ ?_;refine vZ 5 ?_ ?_;refine vZ 6 ?_ ?_;refine vZ 7 ?_ ?_;refine vZ 8 ?_ ?_;refine vZ 9 ?_ ?_;refine vZ 10 ?_ ?_;refine vZ 11 ?_ ?_;refine vZ 12 ?_ ?_;refine vZ 13 ?_ ?_;refine aB (i:=14) rfl ae (λK hK=> ?_);go_simp;go_at_call 51;refine(HWI.out w4 B34).mono ?_;rintro e5 w5' ⟨rfl,hb5⟩;go_wp2_with fail;refine hK.out _ _ (HKZ.out _ (B34.trans (hb5.mono B34.size))) (λhHeld=> ?_);clear hK K;refine sm ?_;refine aC ae ?_ _;have hb25:=B34.trans (hb5.mono B34.size);have R5:=R2.below hb25;have hl5:=hl2.below hb25;have BX5:=BX2.call hb25;have hp5:=hp2.call hb25;have C5:=C2.call hb25;have hKE:=Bj (Ch:=λb=>b=pb\/b=db\/b=w.heap.size+1+1) Hl.out hba hO (KeptC.of hb25);have HO:=ag hO;have HBA:=ag hba;have HB25:=ag hb25;clear hO hba hb25 B34 hb5 hHeld HKZ HWI hPy hvy hfy q0 q1 q2 R2 BX2 hp2 C2 hbox hl2 hp hR;rcases j8 ib with hib|hib
  ·subst hib
   have HE:Hid (cN n k t e=t):=by show _=_;unfold cN;rw[if_pos HIB.out]
   refine wpIn_cond_true rfl (wpIn_exit ?_);show _/\_;refine⟨hl5,?_⟩;exact⟨hl5.put aa _,by rw[HE.out];exact R5.round (hl5.round _) (by omega) (by omega) (by omega) (by omega) (λb hb=>(hS b hb).2.2.2),hKE⟩
  ·subst hib
   refine wpIn_cond_false rfl (wpIn_skip ?_);refine Tb (λK hK=> ?_);have r0:=R5.vc.1 0 _ rfl;have r1:=R5.vc.2.2 0
   gi_wp2
   refine hK.out _ _ ?_;clear hK K r0 r1;have hpz5:=R5.vc.2.1;obtain⟨wq,ewq⟩:∃q',q'=bD w5' (w.heap.size+1+1) 0 [Bb true]:=⟨_,rfl⟩;have ewq0:=ag ewq;have PQ:=bO R5.vc 0 _ ewq;simp only[bD] at ewq;rw[<-ewq];clear ewq;have STq:=PQ.keep R5.st aa;have PRq:=R5.pr.far (PQ.far pb aa) (λb hb _=>PQ.far b (hS b hb).2.2.1) PQ.size;have DRq:=R5.dr.far (PQ.far db aa) PQ.size;have Bq:KeptC (λb=>b=w.heap.size+1+1) w5' wq:=⟨PQ.size,λb hb _=>PQ.far b hb⟩;have Cq:CodeAt wq s c:=hCK _ _ (Bq.mono λb hb=>.inr (.inr hb)) C5;have VSq:=PQ.keep R5.vs aa;have VNq:=PQ.keep R5.vn aa;have BXq:=PQ.keep BX5 aa;have hpq:PicAt wq e.pic vs fs:=(hp5.same (λb hb _=>PQ.far b λe=>hb.1 (.inr (.inr e))) PQ.size).at;have hlz5:=(q7.1 hl5.lp).1;have hDz5:=(q7.1 hl5.dfr).1;have zq:=PQ.size;have z5:=HB25.out.size;have v0:=VSq.1 0 _ rfl;have v1:=VNq.1 0 _ rfl;have x0:=BXq.1 0 _ rfl;have x1:=BXq.1 1 _ rfl;have x2:=BXq.1 2 _ rfl;have x3:=BXq.1 3 _ rfl;by_cases hkq:(k:Int) < (q:Int)
   ·have HED:Hid (cN n k t e=(t.1.set q (aH (aj false) y e.pic),t.2.1.set q (n),true)):=by
     show _=_;unfold cN dt;rw[HIB.out,if_neg ai,HEY.out,hq];rw[if_pos aa,show decide ((q:Int)<=(k:Int))=false by simpa using hkq,Bool.and_false];rfl
    have HCL:=ag (SX (S:=S) V F s c cap sb pb pc db dc q n t.1 t.2.1 e.pic vs vc fs fc (aH (aj false) y e.pic) wq STq PRq DRq hpd hsp.1 (λb hb=>⟨(hS b hb).1,(hS b hb).2.1⟩) (λb hb=>hS2 b aa) hqL Ec (by have:=R5.ln;omega) (λwx vx vxc fx fxc hb k1 k2 k3=>by
     have hx:=HY0.out;rw[<-hx] at k1 k2 k3 |-;exact Gf h0 hcky hok.1 (Cq.below hb (lR _)) k1 k2 k3 (hpq.below hb (lR _)) hv hf))
    have g1:(k:Int) < (q:Int):=aa;exact sJ
   ·by_cases hn4:n < 4
    ·have HED:Hid (cN n k t e=(t.1.set q (aH (aj false) y e.pic),t.2.1.set q (n+1),true)):=by
      show _=_;unfold cN dt;rw[HIB.out,if_neg ai,HEY.out,hq];rw[if_neg aa,show decide ((4:Int)<=n)=false by simpa using hn4,Bool.false_and];rfl
     have HCL:=ag (Lv (S:=S) V F s c cap sb pb pc db dc q n t.1 t.2.1 e.pic vs vc fs fc (aH (aj false) y e.pic) wq STq PRq DRq hpd hsp.1 (λb hb=>⟨(hS b hb).1,(hS b hb).2.1⟩) (λb hb=>hS2 b aa) hqL Ec (by have:=R5.ln;omega) hn4 hnw (λwx vx vxc fx fxc hb k1 k2 k3=>by
      have hx:=HY0.out;rw[<-hx] at k1 k2 k3 |-;exact Gf h0 hcky hok.1 (Cq.below hb (lR _)) k1 k2 k3 (hpq.below hb (lR _)) hv hf))
     have g1:¬(k:Int) < (q:Int):=aa;exact sJ
    ·have HED:Hid (cN n k t e=(t.1.set q (aH (aj true) y e.pic),t.2.1.set q (n+1),true)):=by
      show _=_;unfold cN dt;rw[HIB.out,if_neg ai,HEY.out,hq];rw[if_neg aa,show decide ((4:Int)<=n)=true by simp;omega,show decide ((q:Int)<=(k:Int))=true by simp;omega,Bool.true_and];rfl
     have HCL:=ag (Ma (S:=S) V F s c cap sb pb pc db dc q n t.1 t.2.1 e.pic vs vc fs fc (aH (aj true) y e.pic) wq STq PRq DRq hpd hsp.1 (λb hb=>⟨(hS b hb).1,(hS b hb).2.1⟩) (λb hb=>hS2 b aa) hqL Ec (by have:=R5.ln;omega) hn4 hnw (λwx vx vxc fx fxc hb k1 k2 k3=>by
      have hx:=HY0.out;rw[<-hx] at k1 k2 k3 |-;exact Tx h0 hcky hok.1 (Cq.below hb (lR _)) k1 k2 k3 (hpq.below hb (lR _)) hv hf))
     have g1:¬(k:Int) < (q:Int):=aa;exact sJ
end
section
open Go.RowKit
attribute [local go_sem ↓] Go.wp_at_zero Go.wp_at_succ
def Sg (V F:Int)(c:lI)(e:Ending)(w':World):Prop:=(au V F c≠0/\e=Rt (Tu #[U nO 0 0,I Y 0,I Y (au V F c)]))\/(au V F c=0/\∃(m pb pc:Nat),SolvedAt V F c m/\m<=200000000000000/\e=Rt (Tu #[U (sO ⟨pb,0,nO⟩) (c.length+1) pc,I Y ((m+1:Nat):Int),I Y 0])/\XsAt w' (sO ⟨pb,0,nO⟩) (aI V F c m))
structure SolAt (w:World) (V F:Int) (s:oA) (c:lI) (cap sb pb pc db dc m:Nat) (W:World):Prop where
 st:Cells W sb [I Y V,I Y F,U s c.length cap,U (sO ⟨pb,0,nO⟩) (c.length+1) pc,U (sO ⟨db,0,nO⟩) (c.length+1) dc]
 pr:PRow (λb=>b≠pb/\b≠db) W pb (aI V F c m)
 dr:∃D,DRow W db D/\Due V F c ((m+1:Nat):Int) 0 (aI V F c m) D
 all:∀k,k < m->(du c ((k+1:Nat):Int) (aI V F c k)).2=true
 lo:bl w W
theorem SolAt.next {w W W':World}{V F:Int}{s:oA}{c:lI}{cap sb pb pc db dc m:Nat}{D:List Int}(h0:au V F c=0)(h:SolAt w V F s c cap sb pb pc db dc m W)(hD:Due V F c ((m+1:Nat):Int) 0 (aI V F c m) D)(hs:iE (λb=>b≠pb/\b≠db) W W' pb db (fW c ((m+1:Nat):Int) (aI V F c m,D)).1 (fW c ((m+1:Nat):Int) (aI V F c m,D)).2.1)(hsp:sb≠pb/\sb≠db)(hn:w.heap.size<=pb/\w.heap.size<=db):
  Cells W' sb [I Y V,I Y F,U s c.length cap,U (sO ⟨pb,0,nO⟩) (c.length+1) pc,U (sO ⟨db,0,nO⟩) (c.length+1) dc]/\bl w W'/\PRow (λb=>b≠pb/\b≠db) W' pb (aI V F c (m+1))/\((du c ((m+1:Nat):Int) (aI V F c m)).2=true->SolAt w V F s c cap sb pb pc db dc (m+1) W'):=by
 obtain⟨s1,s2,s3,s4,s5⟩:=hs;obtain⟨d1,d2,d3⟩:=vK h0 hD;rw[d2] at s1;have c1:=h.st.same (s3 sb hsp.1 hsp.2 h.st.2.1) s4;have l1:=s5 hn.1 hn.2 h.lo.size h.lo;refine⟨c1,l1,s1,λht=>⟨c1,s1,⟨_,s2,?_⟩,λk hk=> ?_,l1⟩⟩
 ·rw[d2] at d1
  exact d1
 ·by_cases e:k=m
  ·rw[e];exact ht
  ·exact h.all k aa
theorem NO (V F:Int)(s:oA)(c:lI)(cap:Nat)(w:World)(hc:CodeAt w s c):
  Calls pG 17 #[pv V F s c cap] w λe w'=>Sg V F c e w'/\bl w w':=by
 have B0:=ic;have P0:=y8;have C0:=hc.call B0;have HC:=ag hc;clear hc;go_enter func17,ntmps17;go_upto_region 1 with fail
 generalize w.alloc (Cc #[I Y V,I Y F,U s c.length cap] 24)=w0 at *;have p0:=P0.1 0 _ rfl;have p1:=P0.1 1 _ rfl;have p2:=P0.1 2 _ rfl;have HBG:=ag (Vo V F s c cap w0 C0);go_wp2_with fail;refine HBG.out.mono ?_;rintro e w1 ⟨⟨bs,bc,bf,be,rfl,PB,hbv,hbf⟩,hb1⟩;clear HBG p0 p1 p2;have B1:=gO;have P1:=gk;have C1:=C0.call hb1;clear P0 C0 B0 hb1;by_cases h0:au V F c=0;rotate_left
 ·have HE:Hid (∀w',Sg V F c (Rt (Tu #[U nO 0 0,I Y 0,I Y (au V F c)])) w'):=λw'=>.inl ⟨h0,rfl⟩
  generalize (if au V F c=0 then bM V F c else fO)=bg at *;generalize au V F c=r at *;have f1:(r !=0)=true:=oO;clear h0;go_upto_region 3 with fail
  have hba:=Ko;have B2:=B1.trans (hba.mono B1.size);clear P1 C1 B1 PB hba;generalize w1.alloc (Cc #[Bb bg.none,U bs bg.vq.length bc,U bf bg.fq.length be] 28)=w2 at *;go_wp2;refine bodyPost_ret (v:=Tu #[U nO 0 0,I Y 0,I Y r]) (by simp[results,results17,go_sem]) rfl ?_;exact⟨HE.out _,B2⟩
 obtain⟨⟨hV1,hV8⟩,⟨hF0,hF3⟩,h60⟩:=fZ;rw[if_pos h0] at PB hbv hbf;have HZ:Hid (au V F c=0):=h0;rw[h0,if_pos rfl];obtain⟨bg,ebg⟩:∃b,b=bM V F c:=⟨_,rfl⟩;have HBG:=ag ebg;rw[<-ebg] at PB hbv hbf |-;clear ebg h0;have hba:=Ko;have G2:Cells (w1.alloc (Cc #[Bb bg.none,U bs bg.vq.length bc,U bf bg.fq.length be] 28)) w1.heap.size [Bb bg.none,U bs bg.vq.length bc,U bf bg.fq.length be]:=Cells.new w1 _ [_,_,_];have PB2:=PB.at.call hba;have P2:=P1.call hba;have C2:=C1.call hba;have B2:=B1.trans (hba.mono B1.size);clear P1 C1 B1 PB hba;go_upto_region 4 with fail
 generalize w1.alloc (Cc #[Bb bg.none,U bs bg.vq.length bc,U bf bg.fq.length be] 28)=w2 at *;have p0:=P2.1 0 _ rfl;have p1:=P2.1 1 _ rfl;have p2:=P2.1 2 _ rfl;have g0:=G2.1 0 _ rfl;have g1:=G2.1 1 _ rfl;have g2:=G2.1 2 _ rfl;have HNS:=ag (Ue V F s c cap bg bs bc bf be w2 PB2 hbv hbf h60);go_wp2_with fail;refine HNS.out.mono ?_;rintro e w3 ⟨pb,pc,db,dc,rfl,ST3,PR3,DR3,hpn,hne,hb3⟩;clear HNS p0 p1 p2 g0 g1 g2;have z2:=B2.size;have B3:=fH;obtain⟨sb,esb⟩:∃sb,sb=w2.heap.size+1+1+1+1:=⟨_,rfl⟩;rw[<-esb] at ST3 hne |-;have hsb:w.heap.size<=sb:=aa;clear esb;have HN:Hid (w.heap.size<=pb/\w.heap.size<=db):=⟨aa,aa⟩;have HNE:Hid (pb≠db/\sb≠pb/\sb≠db):=⟨hne.1,Ne.symm hne.2.1,Ne.symm hne.2.2⟩;have HSC:Hid (c≠[]->∀a,s=sO a->a.block≠pb/\a.block≠db):=λhcn a ha=>by
  rcases HC.out with h|⟨b,off,e,hb,-⟩
  ·exact absurd h hcn
  ·rw[e] at ha;cases ha
   have:=HN.out;exact⟨aw,aw⟩
 have S3:SolAt w V F s c cap sb pb pc db dc 0 w3:=by
  refine⟨ST3,?_,⟨_,DR3,?_⟩,λk hk=>absurd hk aa,B3⟩
  ·have e:aI V F c 0=bg::List.replicate c.length nonePic:=by rw[HBG.out];rfl
   rw[e];exact PR3.mono λb hb _=>⟨by have:=hpn.1;omega,by have:=hpn.2;omega⟩
  ·exact Oe HZ.out
 clear ST3 PR3 DR3 hb3 B3 G2 PB2 P2 C2 B2 hbv hbf HBG hpn hne;go_wp2;obtain⟨M,hM⟩:∃M:Nat,M=200000000000003:=⟨_,rfl⟩;have HM:=ag hM;clear hM;have HMB:Hid (∀m:Nat,m<=200000000000000->m+2 < M):=λm h=>by rw[HM.out];exact Nat.lt_of_le_of_lt (Q0 h 2) (by decide)
 clear HM;go_loopw [8] (λi wr=>∃m:Nat,i=I Y ((m+1:Nat):Int)/\Hid (SolAt w V F s c cap sb pb pc db dc m wr)) (λi _=>M - (intOf i).toNat)
 case atStart=>exact⟨0,rfl,S3⟩
 case round=>
  clear S3;obtain⟨m,rfl,HS⟩:=hrel;obtain⟨D,hDR,hDue⟩:=HS.out.dr;have hfew:=kB HZ.out HS.out.all;have hnw:IntKind.i64.wrap (((m+1:Nat):Int)+1)=((m+1:Nat):Int)+1:=uL;have hxs:=d9 HZ.out m;have HRD:Hid (Calls pG 49 #[Pp (sO ⟨sb,0,nO⟩),I Y ((m+1:Nat):Int)] wr λe w'=>e=Rt (Bb (fW c ((m+1:Nat):Int) (aI V F c m,D)).2.2)/\iE (λb=>b≠pb/\b≠db) wr w' pb db (fW c ((m+1:Nat):Int) (aI V F c m,D)).1 (fW c ((m+1:Nat):Int) (aI V F c m,D)).2.1):=by
   have hC:CodeAt wr s c:=HC.out.below HS.out.lo (lR _);have hpz:pb < wr.heap.size:=HS.out.pr.choose_spec.1.2.1;have hdz:db < wr.heap.size:=hDR.choose_spec.1.2.1;have hst:Cells wr sb [I Y V,I Y F,U s c.length cap,U (sO ⟨pb,0,nO⟩) (aI V F c m).length pc,U (sO ⟨db,0,nO⟩) D.length dc]:=by rw[hxs.len,hDue.len];exact HS.out.st
   exact N8 V F s c cap sb pb pc db dc ((m+1:Nat):Int) (aI V F c m) D wr HZ.out hst HS.out.pr hDR hC HNE.out.1 HNE.out.2 (λb hb=>hb) (λb hb=>⟨aa,aa⟩) HSC.out hxs hDue.len hnw
  have HDD:=ag (vK HZ.out hDue);have HMM:Hid (m<=200000000000000):=by show _<=_;omega
  have HMX:=ag (HMB.out m HMM.out);have hmb:(m:Int)<=200000000000000:=by have:=HMM.out;omega
  go_wp2_with fail;refine HRD.out.mono ?_;rintro e w5 ⟨rfl,SS⟩;obtain⟨N1,N2,N3,N4⟩:=HS.out.next HZ.out hDue SS HNE.out.2 HN.out;rw[HDD.out.2.2];clear HRD SS hDue hDR hfew hxs;rcases j8 (du c ((m+1:Nat):Int) (aI V F c m)).2 with ht|ht
  ·have HNX:=ag (N4 ht)
   rw[ht];clear ht N1 N2 N3 N4;go_wp2;go_roundw
   case rel=>exact⟨m+1,aF,HNX.out⟩
   case measure=>have:=HMX.out;simp[intOf];omega
  ·have HSV:Hid (SolvedAt V F c m):=⟨HS.out.all,ht⟩
   rw[ht];clear ht N4;have q3:=N1.1 3 _ rfl;have HPR:Hid (XsAt w5 (sO ⟨pb,0,nO⟩) (aI V F c m)):=by
    show XsAt _ _ _;rw[<-(vG HZ.out HSV.out).1];exact N3.xs
   clear N3 N1 HS;go_wp2;refine bodyPost_ret (v:=Tu #[U (sO ⟨pb,0,nO⟩) (c.length+1) pc,I Y ((m+1:Nat):Int),I Y 0]) (by simp[results,results17,go_sem]) rfl ?_;exact⟨.inr ⟨HZ.out,m,pb,pc,HSV.out,HMM.out,rfl,HPR.out⟩,N2⟩
def Ga (V F:Int)(c:lI)(B:Nat)(e:Ending)(w':World):Prop:=(au V F c≠0/\e=Rt (Tu #[U nO 0 0,I Y (au V F c)]))\/(au V F c=0/\∃(m:Nat) (a:oA) (ac:Nat),SolvedAt V F c m/\e=Rt (Tu #[U a (aN c (aI V F c m) c.length).length ac,I Y 0])/\w'.ownsRow B 62 2 (U a (aN c (aI V F c m) c.length).length ac) (aN c (aI V F c m) c.length).length (alC (aN c (aI V F c m) c.length)))
theorem oq (V F:Int)(s:oA)(c:lI)(cap:Nat)(w:World)(hc:CodeAt w s c):
  Calls pG 20 #[pv V F s c cap] w λe w'=>Ga V F c w.heap.size e w'/\bl w w':=by
 have B0:=ic;have P0:=y8;go_enter func20,ntmps20;go_upto_region 1 with fail
 generalize w.alloc (Cc #[I Y V,I Y F,U s c.length cap] 24)=w0 at *;have p0:=P0.1 0 _ rfl;have p1:=P0.1 1 _ rfl;have p2:=P0.1 2 _ rfl;have HSO:=ag (NO V F s c cap w0 (hc.call B0));go_wp2_with fail;refine HSO.out.mono ?_;rintro e w4 ⟨hans,hb4⟩;clear HSO p0 p1 p2;have B4:=B0.trans (hb4.mono B0.size);have P4:=P0.call hb4;clear P0 B0 hb4;rcases hans with⟨h0,rfl⟩|⟨h0,m,pb,pc,hsv,-,rfl,hX⟩
 ·have HE:Hid (∀w',Ga V F c w.heap.size (Rt (Tu #[U nO 0 0,I Y (au V F c)])) w'):=λw'=>.inl ⟨h0,rfl⟩
  generalize au V F c=r at *;have f1:(r !=0)=true:=oO;clear h0 P4;go_wp2;refine bodyPost_ret (v:=Tu #[U nO 0 0,I Y r]) (by simp[results,results20,go_sem]) rfl ?_;exact⟨HE.out _,B4⟩
 have h60:=kh;have HXO:=ag (d9 h0 m);have H0:=ag h0;have HANS:Hid (∀(a:oA) (ac:Nat) (w':World),w'.ownsRow w.heap.size 62 2 (U a (aN c (aI V F c m) c.length).length ac) (aN c (aI V F c m) c.length).length (alC (aN c (aI V F c m) c.length))->Ga V F c w.heap.size (Rt (Tu #[U a (aN c (aI V F c m) c.length).length ac,I Y 0])) w'):=λa ac w' h=>.inr ⟨h0,m,a,ac,hsv,rfl,h⟩;generalize aI V F c m=L at *;have HX:=ag hX;have HC:=ag (hc.below B4 (lR _));clear h0 hX hc hsv;have zn:=P4.2.1;have A0:AlmAt (w4.alloc (Cc #[U nO 0 0] 55)) w4.heap.size w4.heap.size (aN c L 0):=⟨_,Cells.new w4 _ [_],World.ownsRow_nil _ _ _ _,ku⟩;have hb0:Below w4.heap.size w4 (w4.alloc (Cc #[U nO 0 0] 55)):=am;have p2:=(P4.call hb0).1 2 _ rfl;go_upto_region 5 with fail
 generalize w4.alloc (Cc #[U nO 0 0] 55)=w5 at *;go_wp2;clear p2;go_loopw [26] (λi wr=>∃k:Nat,k<=c.length/\i=I Y k/\AlmAt wr w4.heap.size w4.heap.size (aN c L k)/\bl w4 wr) (λi _=>c.length - (intOf i).toNat)
 case atStart=>exact⟨0,j7 _,rfl,A0,hb0⟩
 case round=>
  clear A0 hb0;obtain⟨k,hk,rfl,AR,BR⟩:=hrel;by_cases hlt:k < c.length;rotate_left
  ·have n1:=lw
   have ek:=iS;obtain⟨v,hV,hO,-⟩:=AR;have hform:∃a cp,v=U a (aN c L k).length cp:=by
    rcases hO.2 with⟨h,h2⟩|⟨g,cp,_,h,_⟩
    ·exact⟨nO,0,by rw[h,h2]⟩
    ·exact⟨_,_,h⟩
   obtain⟨va,vcp,ev⟩:=hform;subst ev;rw[ek] at hV hO;have v0:=hV.1 0 _ rfl;have HO:=ag (Ks hO (B':=w.heap.size) (by have:=B4.size;omega))
   clear hO hV ek;go_wp2;refine bodyPost_ret (v:=Tu #[U va (aN c L c.length).length vcp,I Y 0]) (by simp[results,results20,go_sem]) rfl ?_;exact⟨HANS.out _ _ _ HO.out,B4.trans (BR.mono B4.size)⟩
  have n0:=bA;have n1:=gF;have n2:=sD;have hba:Below wr.heap.size wr (wr.alloc (Cc #[I Y (k:Int)] 3)):=am;have AT:=AR.new.call hba;have TT:Cells (wr.alloc (Cc #[I Y (k:Int)] 3)) wr.heap.size [I Y (k:Int)]:=Cells.new wr _ [_];have BT:=BR.trans (hba.mono BR.size);have zr:=BR.size;have zA:w4.heap.size < wr.heap.size:=AR.choose_spec.1.2.1;clear AR BR;go_upto_region 9 with fail
  generalize wr.alloc (Cc #[I Y (k:Int)] 3)=wt at *;obtain⟨tb,etb⟩:∃tb,tb=wr.heap.size:=⟨_,rfl⟩;rw[<-etb] at AT TT zA |-;have hne:w4.heap.size≠tb:=aa;have hxl:k < L.length:=by rw[HXO.out.len];omega
  obtain⟨rb',ro',els,zpb,vx,vxc,fx,fxc,⟨q0,q1,q2⟩,hPx,hvx,hfx⟩:=HX.out k hxl;cases els;simp only[x6] at q0 q1 q2;obtain⟨x,ex⟩:∃x,x=L[k]:=⟨_,rfl⟩;have hckx:aO V F c x=0:=Ni;have HEX:Hid (bm L (k:Int)=x):=by show _=_;rw[gZ hxl,ex]
  rw[<-ex] at q0 q1 q2 hPx hvx hfx;clear ex etb;have HSF:Hid (∀wx,bl wt wx->Calls pG 15 #[pv V F s c cap,I Y (k:Int),xv x vx vxc fx fxc] wx λe w'=>(∃es ec,e=Rt (Tu #[U es (cW c k x).length ec,Bb (aA (bL c k) k x).2.1,Bb (aA (bL c k) k x).2.2,I Y 0]))/\bl wx w'):=λwx hb=>by
   have hu:aU V F c [x]=0:=by unfold aU;rw[if_pos H0.out];unfold cV;rw[if_pos hckx];rfl
   have e0:=Ip;have e1:=FL;have b:=BT.trans (hb.mono BT.size);have h:=Et V F s c cap (k:Int) x vx vxc fx fxc wx (HC.out.below b (lR _)) (hPx.below b (lR _)) hvx hfx;rw[e0,e1] at h;refine h.mono ?_;rintro e w' ⟨⟨es,ec,rfl,-⟩,hb'⟩;exact⟨⟨es,ec,rfl⟩,hb'⟩
  have HKZ:Hid (∀wx,bl wt wx->(wx.cell? ⟨w.heap.size,0,nO⟩=sO (I Y V)/\wx.cell? ⟨w.heap.size,1,nO⟩=sO (I Y F)/\wx.cell? ⟨w.heap.size,2,nO⟩=sO (U s c.length cap))/\wx.cell? ⟨tb,0,nO⟩=sO (I Y (k:Int))/\(wx.cell? ⟨pb,k * 3,nO⟩=sO (Bb x.none)/\wx.cell? ⟨pb,k * 3+1,nO⟩=sO (U vx x.vq.length vxc)/\wx.cell? ⟨pb,k * 3+2,nO⟩=sO (U fx x.fq.length fxc))):=λwx hb=>by
   have b:=BT.trans (hb.mono BT.size);have p:=P4.call b;exact⟨⟨p.1 0 _ rfl,p.1 1 _ rfl,p.1 2 _ rfl⟩,(TT.call hb).1 0 _ rfl,by rw[b.cell (by simp only;exact zpb)];exact q0,by rw[b.cell (by simp only;exact zpb)];exact q1,by rw[b.cell (by simp only;exact zpb)];exact q2⟩
  have BD:bl wt wt.drew:=(bR _ _).drew;have HNX:Hid (aN c L (k+1)=bX (bX (bX (aN c L k) k 1 (aA (bL c k) k x).2.1) k 2 (aA (bL c k) k x).2.2) k 3 x.none):=by show _=_;rw[gP];unfold lj;rw[HEX.out]
  have HLEN:Hid ((aN c L k).length+2<=500/\∀(A:List (Int×Int)) (a d:Int) (b:Bool),(bX A a d b).length<=A.length+1):=⟨by have:=hU (c:=c) (L:=L) (k:=k);omega,λ_ _ _ _=>iy⟩
  generalize (aA (bL c k) k x).2.1=sw at *;generalize (aA (bL c k) k x).2.2=sf at *;generalize (cW c k x).length=el at *;have m1:=gC;refine aG (S:=(λwx=>(wx.cell? ⟨w.heap.size,0,nO⟩=sO (I Y V)/\wx.cell? ⟨w.heap.size,1,nO⟩=sO (I Y F)/\wx.cell? ⟨w.heap.size,2,nO⟩=sO (U s c.length cap))/\wx.cell? ⟨tb,0,nO⟩=sO (I Y (k:Int))/\(wx.cell? ⟨pb,k * 3,nO⟩=sO (Bb x.none)/\wx.cell? ⟨pb,k * 3+1,nO⟩=sO (U vx x.vq.length vxc)/\wx.cell? ⟨pb,k * 3+2,nO⟩=sO (U fx x.fq.length fxc)))) [] ae (HKZ.out _ BD) (λhHeld=> ?_);generalize wt.drew=wd at *;refine vZ 0 ?_ ?_;refine vZ 1 ?_ ?_;refine vZ 2 ?_ ?_;refine vZ 3 ?_ ?_;refine vZ 4 ?_ ?_;refine vZ 5 ?_ ?_;refine aB (i:=6) rfl ae (λK hK=> ?_);go_simp;go_at_call 15;refine(HSF.out wd BD).mono ?_;rintro e w6 ⟨⟨es,ec,rfl⟩,hb6⟩;go_wp2_with fail;refine hK.out _ _ (HKZ.out _ (BD.trans (hb6.mono BD.size))) (λhHeld=> ?_);clear hK K;refine sm ?_;refine vZ 7 ?_ ?_;refine vZ 8 ?_ ?_;refine vZ 9 ?_ ?_;refine vZ 10 ?_ ?_;refine vZ 11 ?_ ?_;refine vZ 12 ?_ ?_;refine vZ 13 ?_ ?_;refine vZ 14 ?_ ?_;refine vZ 15 ?_ ?_;refine aC ae ?_ _;have b6:=BD.trans (hb6.mono BD.size);have A6:=AT.call b6;have T6:=TT.call b6;have B6:=BT.trans (b6.mono BT.size);clear AT TT BD hb6 b6 HKZ HSF hHeld;go_wp2_with fail;refine(tY 1 (k:Int) sw w4.heap.size tb _ w6 A6 hne T6 Dl).mono ?_;rintro e w7 ⟨⟨ve7,rfl⟩,A7,hb7,T7⟩;have B7:=B6.trans hb7;clear A6 T6 B6 hb7;go_wp2_with fail;refine(tY 2 (k:Int) sf w4.heap.size tb _ w7 A7 hne T7 (lT (HLEN.out.2 _ _ _ _) Dl)).mono ?_;rintro e w8 ⟨⟨ve8,rfl⟩,A8,hb8,T8⟩;have B8:=B7.trans hb8;clear A7 T7 B7 hb8;have x0:w8.cell? ⟨pb,k * 3,nO⟩=sO (Bb x.none):=by rw[B8.cell (by simp only;exact zpb)];exact q0
  have t0:=T8.1 0 _ rfl;go_wp2_with fail;refine(tY 3 (k:Int) x.none w4.heap.size tb _ w8 A8 hne T8 (lT (HLEN.out.2 _ _ _ _) (lT (Q0 (HLEN.out.2 _ _ _ _) 1) Dl))).mono ?_;rintro e w9 ⟨⟨ve9,rfl⟩,A9,hb9,T9⟩;have B9:=B8.trans hb9;clear A8 T8 B8 hb9;clear x0 t0;have HA9:Hid (AlmAt w9 w4.heap.size w4.heap.size (aN c L (k+1))):=by
   rw[HNX.out];obtain⟨v,a1,a2,-⟩:=A9;exact⟨v,a1,a2,λe=>by have:=(a2.lt _ e).1;omega⟩
  clear A9;go_wp2;go_roundw
  case rel=>exact⟨k+1,aa,aF,HA9.out,B9⟩
  case measure=>exact aK
def AlsAt (W:World)(a:oA)(A:List (Int×Int)):Prop:=∀k (h:k < A.length),∃b,a=sO ⟨b,0,nO⟩/\b < W.heap.size/\W.cell? ⟨b,k * 2,nO⟩=sO (I Y A[k].1)/\W.cell? ⟨b,k * 2+1,nO⟩=sO (I Y A[k].2)
theorem AlsAt.below {W W':World}{a:oA}{A:List (Int×Int)}(h:AlsAt W a A)(hb:bl W W'):AlsAt W' a A:=λk hk=>by
 obtain⟨b,e,hz,h0,h1⟩:=h k hk;exact⟨b,e,lL hz hb.size,by rw[hb.cell (by simp only;exact hz)];exact h0,by rw[hb.cell (by simp only;exact hz)];exact h1⟩
theorem DE:∀{A:List (Int×Int)} {k:Nat} (h:k < A.length),(alC A)[k * 2]? =sO (I Y A[k].1)/\(alC A)[k * 2+1]? =sO (I Y A[k].2)
 |[],_,h=>absurd h ah
 |a::A,0,_=>⟨rfl,rfl⟩
 |a::A,k+1,h=>by
  have ih:=DE (A:=A) (k:=k) cq;have e:alC (a::A)=I Y a.1::I Y a.2::alC A:=rfl;rw[e,show (k+1) * 2=k * 2+1+1 by omega];simpa using ih
theorem nI {W:World}{B ac:Nat}{a:oA}{A:List (Int×Int)}(h:W.ownsRow B 62 2 (U a A.length ac) A.length (alC A)):AlsAt W a A:=λk hk=>by
 rcases h.2 with⟨_,h0⟩|⟨g,cp,_,e,_⟩
 ·omega
 ·cases e
  have z:=(h.lt g rfl).2;exact⟨g,rfl,z,(h.cellAt _ aa).trans (DE hk).1,(h.cellAt _ aa).trans (DE hk).2⟩
theorem PW (A:List (Int×Int))(p:Int×Int->Bool)(k:Nat)(h:k < A.length):(A.drop k).any p=(p A[k]||(A.drop (k+1)).any p):=by rw[List.drop_eq_getElem_cons h];rfl
theorem Sr (a d:Int)(w:World):Calls pG 55 #[Ag #[I Y a,I Y d]] w λe w'=>e=Rt (Bb (d !=3))/\bl w w':=by
 go_enter func55,ntmps55;go_wp2;go_ret;exact⟨by first|rfl|simp,am⟩
theorem Fe (a:oA)(ac:Nat)(A:List (Int×Int))(w:World)(hl:A.length<=1000)(hs:AlsAt w a A):
  Calls pG 104 #[U a A.length ac,.func (.func 55) #[] #[]] w λe w'=>∃n:Int,e=Rt (I Y n)/\decide (0<=n)=A.any (λx=>x.2 !=3)/\bl w w':=by
 have HS:=ag hs;clear hs;go_enter func104,ntmps104;go_wp2;go_loopw [8] (λi wr=>∃k:Nat,k<=A.length/\i=I Y k/\bl w wr/\Hid (A.any (λx=>x.2 !=3)=(A.drop k).any (λx=>x.2 !=3))) (λi _=>A.length - (intOf i).toNat)
 case atStart=>exact⟨0,j7 _,rfl,bR _ _,by show _=_;rw[List.drop_zero]⟩
 case round=>
  obtain⟨k,hk,rfl,hbr,HA⟩:=hrel;by_cases hlt:k < A.length
  ·have n0:=dk
   have n1:(k:Int) < (A.length:Int):=aa;have s0:=hbr.size;obtain⟨b,rfl,hz,c0,c1⟩:=HS.out.below hbr k hlt;have HN:=ag (PW A (λx=>x.2 !=3) k hlt);clear HS;generalize A[k].1=a1 at *;obtain⟨d1,ed⟩:∃d,d=A[k].2:=⟨_,rfl⟩;have HD:=ag ed;rw[<-ed] at c1;clear ed;go_wp2_with fail;refine(Sr a1 d1 _).mono ?_;rintro e w1 ⟨rfl,hb1⟩;have hb2:=hbr.trans (hb1.mono s0);cases hp:(d1 !=3) with
   |true=>
    have HT:Hid (A.any (λx=>x.2 !=3)=true):=Nu;clear HN HA;go_wp2;go_ret;exact⟨_,rfl,MP,hb2⟩
   |false=>
    have HT:Hid (A.any (λx=>x.2 !=3)=(A.drop (k+1)).any (λx=>x.2 !=3)):=Nu;clear HN HA;go_wp2;go_roundw
    case rel=>exact⟨k+1,aa,aF,hb2,HT⟩
    case measure=>exact aK
  ·have n1:=yu
   go_wp2;go_ret;exact im
theorem yF (a:oA)(ac:Nat)(A:List (Int×Int))(w:World)(hl:A.length<=1000)(hs:AlsAt w a A):
  Calls pG 56 #[U a A.length ac,.func (.func 55) #[] #[]] w λe w'=>e=Rt (Bb (A.any (λx=>x.2 !=3)))/\bl w w':=by
 have HI:=ag (Fe a ac A w hl hs);clear hs;generalize A.any (λx=>x.2 !=3)=r at *;go_enter func56,ntmps56;go_wp2_with fail;refine HI.out.mono ?_;rintro e w1 ⟨q,rfl,hq,hb1⟩;go_wp2;go_ret;exact⟨bF (by rw[<-hq]),hb1⟩
def Dn (V F:Int)(c:lI)(e:Ending):Prop:=(au V F c≠0/\e=Rt (Tu #[Bb false,I Y (au V F c)]))\/(au V F c=0/\∃m:Nat,SolvedAt V F c m/\e=Rt (Tu #[Bb (!(aN c (aI V F c m) c.length).any (λx=>x.2 !=3)),I Y 0]))
theorem Uh (V F:Int)(s:oA)(c:lI)(cap:Nat)(w:World)(hc:CodeAt w s c):
  Calls pG 21 #[pv V F s c cap] w λe w'=>Dn V F c e/\bl w w':=by
 have B0:=ic;have P0:=y8;go_enter func21,ntmps21;go_upto_region 1 with fail
 generalize w.alloc (Cc #[I Y V,I Y F,U s c.length cap] 24)=w0 at *;have p0:=P0.1 0 _ rfl;have p1:=P0.1 1 _ rfl;have p2:=P0.1 2 _ rfl;have HAL:=ag (oq V F s c cap w0 (hc.call B0));go_wp2_with fail;refine HAL.out.mono ?_;rintro e w4 ⟨hans,hb4⟩;clear HAL p0 p1 p2 P0;have B4:=B0.trans (hb4.mono B0.size);clear B0 hb4;rcases hans with⟨h0,rfl⟩|⟨h0,m,a,ac,hsv,rfl,hO⟩
 ·have HE:Hid (Dn V F c (Rt (Tu #[Bb false,I Y (au V F c)]))):=.inl ⟨h0,rfl⟩
  generalize au V F c=r at *;have f1:(r !=0)=true:=oO;clear h0;go_wp2;refine bodyPost_ret (v:=Tu #[Bb false,I Y r]) (by simp[results,results21,go_sem]) rfl ?_;exact⟨HE.out,B4⟩
 have HE:Hid (Dn V F c (Rt (Tu #[Bb (!(aN c (aI V F c m) c.length).any (λx=>x.2 !=3)),I Y 0]))):=.inr ⟨h0,m,hsv,rfl⟩;have hl:(aN c (aI V F c m) c.length).length<=1000:=by have:=hU (c:=c) (L:=aI V F c m) (k:=c.length);have:=(fe h0).2.2;omega
 have HCF:=ag (yF a ac _ w4 hl (nI hO));clear h0 hsv hO hl;generalize (aN c (aI V F c m) c.length).any (λx=>x.2 !=3)=r at *;generalize (aN c (aI V F c m) c.length).length=ln at *;go_wp2_with fail;refine HCF.out.mono ?_;rintro e w5 ⟨rfl,hb5⟩;have B5:=kY;go_wp2;refine bodyPost_ret (v:=Tu #[Bb (!r),I Y 0]) (by simp[results,results21,go_sem]) rfl ?_;exact⟨HE.out,B5⟩
def Wd (A:List (Int×Int))(e:Ending)(w':World):Prop:=∃(a:oA) (ac:Nat),e=Rt (U a A.length ac)/\AlsAt w' a A
theorem KE {B:Nat}{W:World}{v:Value}{A:List (Int×Int)}(h:W.ownsRow B 62 2 v A.length (alC A)):∃a cp,v=U a A.length cp:=by
 rcases h.2 with⟨h,h2⟩|⟨g,cp,_,h,_⟩
 ·exact⟨nO,0,by rw[h,h2]⟩
 ·exact⟨_,_,h⟩
theorem GD {B:Nat}{w2 W W4:World}{v v':Value}{A:List (Int×Int)}{k kind:Int}{O:Obj}(hO:W.ownsRow B 62 2 v A.length (alC A))(BR:Below B w2 W)(hB:B<=W.heap.size)(hown:W4.ownsRow B 62 2 v' (A.length+1) (alC A++[I Y k,I Y kind]))(hgrow:(W.alloc O).grownBy W4 v.ownBlock):
  W4.ownsRow B 62 2 v' (bX A k kind true).length (alC (bX A k kind true))/\Below B w2 W4:=by
 have hz:=pL;have h:W4.ownsRow B 62 2 v' (A++[(k,kind)]).length (alC (A++[(k,kind)])):=by
  rw[<-GJ,List.length_append];exact hown
 exact⟨h,(BR.alloc hB O).grown hgrow aa (λq hq=>(hO.lt q hq).1)⟩
theorem Cp {p:Prop}(h:p:=by
 intro v' w9 hown hgrow hat;have HN:=ag (GD HO.out BR zB hown hgrow);clear hown hgrow hat S4;go_wp2_with fail;go_meet;obtain⟨a9,c9,e9⟩:=KE HN.out.1;rw[HE.out];exact⟨a9,c9,e9,by show _;rw[<-e9];exact HN.out.1,HN.out.2⟩):p:=h
theorem Gy (V F:Int)(s:oA)(c:lI)(cap m:Nat)(w:World)(hc:CodeAt w s c)(h0:au V F c=0)(hs:SolvedAt V F c m):
  Calls pG 23 #[pv V F s c cap] w λe w'=>Wd (aN c (aI V F c m) c.length) e w'/\bl w w':=by
 obtain⟨ti,hi,hz0,hz1,hz2⟩:=info_parts Tryz.info_alarm;have h60:=kh;have B0:=ic;have P0:=mS;have HXO:=ag (d9 h0 m);have HC:=ag hc;have H0:=ag h0;have HSO:Hid (∀wx,bl w wx->Calls pG 31 #[pv V F s c cap] wx λe w'=>(∃pb pc:Nat,e=Rt (Tu #[U (sO ⟨pb,0,nO⟩) (c.length+1) pc,I Y ((m+1:Nat):Int)])/\XsAt w' (sO ⟨pb,0,nO⟩) (aI V F c m))/\bl wx w'):=λwx hb=>by
  refine(Lm V F s c cap wx (hc.below hb (lR _)) h0).mono ?_;rintro e w' ⟨⟨m',pb,pc,hs',_,rfl,hx'⟩,hb'⟩;obtain rfl:=hs'.one hs;exact⟨⟨pb,pc,rfl,hx'⟩,hb'⟩
 generalize aI V F c m=L at *;clear hc h0 hs;go_enter func23,ntmps23;go_upto_region 1 with fail
 generalize w.alloc (Cc #[I Y V,I Y F,U s c.length cap] 24)=w0 at *;obtain⟨⟨p0,p1,p2⟩,pz⟩:=id P0;go_wp2_with fail;refine(HSO.out w0 B0).mono ?_;rintro e w2 ⟨⟨pb,pc,rfl,hX⟩,hb2⟩;have HX:=ag hX;have B2:=B0.trans (hb2.mono B0.size);have P2:=P0.call hb2;clear hX HSO p0 p1 p2 pz P0 B0 hb2;have HB2:=ag B2;clear B2;have O0:w2.ownsRow w2.heap.size 62 2 (U nO (aN c L 0).length 0) (aN c L 0).length (alC (aN c L 0)):=World.ownsRow_nil _ _ _ _;go_wp2;go_loopw [5,6] (λv i wr=>∃(k:Nat) (va:oA) (vcp:Nat),k<=c.length/\i=I Y k/\v=U va (aN c L k).length vcp/\Hid (wr.ownsRow w2.heap.size 62 2 (U va (aN c L k).length vcp) (aN c L k).length (alC (aN c L k)))/\bl w2 wr) (λ_ i _=>c.length - (intOf i).toNat)
 case atStart=>exact⟨0,nO,0,j7 _,rfl,rfl,O0,bR _ _⟩
 case round=>
  clear O0;obtain⟨k,va,vcp,hk,rfl,rfl,HO,BR⟩:=hrel;have PR:=P2.call BR;obtain⟨⟨p0,p1,p2⟩,pz⟩:=id PR;by_cases hlt:k < c.length;rotate_left
  ·have n1:=lw
   have ek:=iS;subst ek;have HA:=ag (nI HO.out);clear HO;go_wp2;go_ret;exact⟨⟨va,vcp,rfl,HA.out⟩,HB2.out.trans (BR.mono HB2.out.size)⟩
  have hxl:k < L.length:=by rw[HXO.out.len];omega
  obtain⟨_,_,els,zpb,vs,vc,fs,fc,⟨q0,q1,q2⟩,hPx,hvx,hfx⟩:=HX.out.below BR (lR _) k hxl;cases els;simp only[x6] at q0 q1 q2;obtain⟨x,ex⟩:∃x,x=L[k]:=⟨_,rfl⟩;have hckx:aO V F c x=0:=Ni;have exa:bm L (k:Int)=x:=by rw[gZ hxl,ex]
  rw[<-ex] at q0 q1 q2 hPx hvx hfx;obtain⟨⟨E,f1,f2⟩,er⟩:∃r,r=aA (bL c (k:Int)) (k:Int) x:=⟨_,rfl⟩;have HAN:Hid (aN c L (k+1)=bX (bX (bX (aN c L k) (k:Int) 1 f1) (k:Int) 2 f2) (k:Int) 3 x.none):=by
   show _=_;rw[gP];unfold lj;rw[exa,<-er]
  have HST:Hid (∀wx,bl wr wx->Calls pG 59 #[pv V F s c cap,I Y (k:Int),xv x vs vc fs fc] wx λe w'=>(∃es ec,e=Rt (Tu #[U es E.length ec,Bb f1,Bb f2]))/\bl wx w'):=λwx hb=>by
   have b:=HB2.out.trans (BR.mono HB2.out.size);have h:=Eo (λ_=>True) V F s c cap (k:Int) x vs vc fs fc wx (HC.out.below (b.trans (hb.mono b.size)) (lR _)) (λw2 h2 hz=>(hPx.call hb).same (λb hb=>h2 b trivial hb) hz) H0.out hckx aa aa hvx hfx;rw[<-er] at h;refine h.mono ?_;rintro e w' ⟨⟨es,ec,rfl,-⟩,hb'⟩;exact⟨⟨es,ec,rfl⟩,hb'⟩
  have HKZ:Hid (∀wx,bl wr wx->(wx.cell? ⟨w.heap.size,0,nO⟩=sO (I Y V)/\wx.cell? ⟨w.heap.size,1,nO⟩=sO (I Y F)/\wx.cell? ⟨w.heap.size,2,nO⟩=sO (U s c.length cap))/\(wx.cell? ⟨pb,k * 3,nO⟩=sO (Bb x.none)/\wx.cell? ⟨pb,k * 3+1,nO⟩=sO (U vs x.vq.length vc)/\wx.cell? ⟨pb,k * 3+2,nO⟩=sO (U fs x.fq.length fc))):=λwx hb=>by
   have q:=λj=>hb.cell (p:=⟨pb,j,nO⟩) (by simp only;exact zpb);exact⟨(PR.call hb).1,(q _).trans q0,(q _).trans q1,(q _).trans q2⟩
  have HNN:Hid (∀wx,bl w2 wx->wx.cell? ⟨pb,k * 3,nO⟩=sO (Bb x.none)):=λwx hb=>by
   obtain⟨_,_,els,_,vs',vc',fs',fc',⟨h0,_⟩,_⟩:=HX.out.below hb (lR _) k hxl;cases els;rw[x6,<-ex] at h0;exact h0
  have hlA:(aN c L k).length<=200:=by have:=hU (c:=c) (L:=L) (k:=k);omega
  have B34:=dB;have n0:=bA;have n1:=gF;have n2:(k:Int) < ((c.length+1:Nat):Int):=aa;have n3:=sD;clear er exa hckx hPx hvx hfx q0 q1 q2 ex;obtain⟨A,eA⟩:∃A,A=aN c L k:=⟨_,rfl⟩;rw[<-eA] at HO HAN hlA |-;clear eA;go_upto_region 6 with fail
  refine aG (S:=(λwx=>(wx.cell? ⟨w.heap.size,0,nO⟩=sO (I Y V)/\wx.cell? ⟨w.heap.size,1,nO⟩=sO (I Y F)/\wx.cell? ⟨w.heap.size,2,nO⟩=sO (U s c.length cap))/\(wx.cell? ⟨pb,k * 3,nO⟩=sO (Bb x.none)/\wx.cell? ⟨pb,k * 3+1,nO⟩=sO (U vs x.vq.length vc)/\wx.cell? ⟨pb,k * 3+2,nO⟩=sO (U fs x.fq.length fc)))) [] ae (HKZ.out _ B34) (λhHeld=> ?_);generalize wr.drew=w4 at *;refine vZ 0 ?_ ?_;refine vZ 1 ?_ ?_;refine vZ 2 ?_ ?_;refine vZ 3 ?_ ?_;refine vZ 4 ?_ ?_;refine vZ 5 ?_ ?_;refine aB (i:=6) rfl ae (λK hK=> ?_);go_simp;go_at_call 59;refine(HST.out w4 B34).mono ?_;rintro e w5 ⟨⟨es,ec,rfl⟩,hb5⟩;have B5:=B34.trans (hb5.mono B34.size);clear hb5;go_wp2_with fail;refine hK.out _ _ (HKZ.out _ B5) (λhHeld=> ?_);clear hK K;refine sm ?_;refine vZ 7 ?_ ?_;refine vZ 8 ?_ ?_;refine vZ 9 ?_ ?_;refine vZ 10 ?_ ?_;refine vZ 11 ?_ ?_;refine vZ 12 ?_ ?_;refine vZ 13 ?_ ?_;refine aC ae ?_ _;have HO5:Hid (w5.ownsRow w2.heap.size 62 2 (U va A.length vcp) A.length (alC A)):=bB HO.out (λk hk=>B5.block k (HO.out.lt k hk).2);have BR5:=BR.trans (B5.mono BR.size);clear hHeld HKZ HST B34 B5 BR HO PR p0 p1 p2 pz;have HO:=HO5;have BR:=BR5;clear HO5 BR5;go_upto_if 33 with fail
  generalize w5=wq at *;clear w5;go_cut [5] (λt5 wc=>∃(ua:oA) (ucp:Nat),t5=U ua (bX A (k:Int) 1 f1).length ucp/\Hid (wc.ownsRow w2.heap.size 62 2 (U ua (bX A (k:Int) 1 f1).length ucp) (bX A (k:Int) 1 f1).length (alC (bX A (k:Int) 1 f1)))/\bl w2 wc)
  case first=>
   rcases j8 f1 with e|e
   ·refine wp_cond_split (congrArg q6 e) (λ_=> ?_) (λh=>aT)
    have HE:=ag e;clear e;have S4:=HO.out.kept (x7 wq (Cc #[I Y (k:Int),I Y 1] 62) nO) (by cases e:(Value.slice va A.length vcp).ownBlock with|none=>exact .inl rfl|some q=>exact .inr ah);have zB:=BR.size;go_wp2_with (at_builtin;refine bh _ rfl _ _ 55 rfl w2.heap.size 62 ti (Ag #[I Y 0,I Y 0]) 2 16 underlying55 hi hz0 hz1 hz2 rfl ai _ _ _ rfl S4 (sO ⟨wq.heap.size,0,nO⟩) 1 1 [I Y (k:Int),I Y 1] rfl rfl (λh=>aT) ?q12 ?q13 ?q14 ?q15 ?q16 ?_);(try case q12=>exact iY wq 62 [I Y (k:Int),I Y 1]);(try case q13=>first|exact⟨rfl,rfl⟩|(intro u hu;simp at hu;rcases hu with rfl|rfl<;>rfl));(try case q14=>first|(unfold maxLen;omega)|omega);(try case q15=>omega);(try case q16=>first|(rw[j6];omega)|omega);exact Cp
   ·refine wp_cond_split (congrArg q6 e) (λh=>aT) (λ_=> ?_)
    have HE:=ag e;clear e;go_wp2_with fail;go_meet;rw[HE.out];exact⟨_,_,rfl,HO.out,BR⟩
  clear HO BR;obtain⟨va',vcp',rfl,HO',BR'⟩:=hcut;obtain⟨A1,eA1⟩:∃q,q=bX A (k:Int) 1 f1:=⟨_,rfl⟩;rw[<-eA1] at HO' |-;have HA1:=ag eA1;have hlA1:A1.length<=A.length+1:=by rw[eA1];exact iy
  clear eA1;have HO:=HO';have BR:=BR';clear HO' BR';generalize va'=va at *;generalize vcp'=vcp at *;clear va' vcp';go_upto_if 39 with fail
  generalize wc=wq at *;clear wc;go_cut [5] (λt5 wc=>∃(ua:oA) (ucp:Nat),t5=U ua (bX A1 (k:Int) 2 f2).length ucp/\Hid (wc.ownsRow w2.heap.size 62 2 (U ua (bX A1 (k:Int) 2 f2).length ucp) (bX A1 (k:Int) 2 f2).length (alC (bX A1 (k:Int) 2 f2)))/\bl w2 wc)
  case first=>
   rcases j8 f2 with e|e
   ·refine wp_cond_split (congrArg q6 e) (λ_=> ?_) (λh=>aT)
    have HE:=ag e;clear e;have S4:=HO.out.kept (x7 wq (Cc #[I Y (k:Int),I Y 2] 62) nO) (by cases e:(Value.slice va A1.length vcp).ownBlock with|none=>exact .inl rfl|some q=>exact .inr ah);have zB:=BR.size;go_wp2_with (at_builtin;refine bh _ rfl _ _ 55 rfl w2.heap.size 62 ti (Ag #[I Y 0,I Y 0]) 2 16 underlying55 hi hz0 hz1 hz2 rfl ai _ _ _ rfl S4 (sO ⟨wq.heap.size,0,nO⟩) 1 1 [I Y (k:Int),I Y 2] rfl rfl (λh=>aT) ?q22 ?q23 ?q24 ?q25 ?q26 ?_);(try case q22=>exact iY wq 62 [I Y (k:Int),I Y 2]);(try case q23=>first|exact⟨rfl,rfl⟩|(intro u hu;simp at hu;rcases hu with rfl|rfl<;>rfl));(try case q24=>first|(unfold maxLen;omega)|omega);(try case q25=>omega);(try case q26=>first|(rw[j6];omega)|omega);exact Cp
   ·refine wp_cond_split (congrArg q6 e) (λh=>aT) (λ_=> ?_)
    have HE:=ag e;clear e;go_wp2_with fail;go_meet;rw[HE.out];exact⟨_,_,rfl,HO.out,BR⟩
  clear HO BR;obtain⟨va',vcp',rfl,HO',BR'⟩:=hcut;obtain⟨A2,eA2⟩:∃q,q=bX A1 (k:Int) 2 f2:=⟨_,rfl⟩;rw[<-eA2] at HO' |-;have HA2:=ag eA2;have hlA2:A2.length<=A1.length+1:=by rw[eA2];exact iy
  clear eA2;have HO:=HO';have BR:=BR';clear HO' BR';generalize va'=va at *;generalize vcp'=vcp at *;clear va' vcp';have q0:=HNN.out wc BR;go_upto_if 49 with fail
  generalize wc=wq at *;clear wc;have HFN:Hid (aN c L (k+1)=bX A2 (k:Int) 3 x.none):=by show _=_;rw[HAN.out,HA2.out,HA1.out]
  clear HAN HA1 HA2 HNN q0;rcases j8 x.none with e|e
  ·refine wp_cond_split (congrArg q6 e) (λ_=> ?_) (λh=>aT)
   rw[e] at HFN;clear e;have S4:=HO.out.kept (x7 wq (Cc #[I Y (k:Int),I Y 3] 62) nO) (by cases e:(Value.slice va A2.length vcp).ownBlock with|none=>exact .inl rfl|some q=>exact .inr ah);have zB:=BR.size;go_wp2_with (at_builtin;refine bh _ rfl _ _ 55 rfl w2.heap.size 62 ti (Ag #[I Y 0,I Y 0]) 2 16 underlying55 hi hz0 hz1 hz2 rfl ai _ _ _ rfl S4 (sO ⟨wq.heap.size,0,nO⟩) 1 1 [I Y (k:Int),I Y 3] rfl rfl (λh=>aT) ?q32 ?q33 ?q34 ?q35 ?q36 ?_);(try case q32=>exact iY wq 62 [I Y (k:Int),I Y 3]);(try case q33=>first|exact⟨rfl,rfl⟩|(intro u hu;simp at hu;rcases hu with rfl|rfl<;>rfl));(try case q34=>first|(unfold maxLen;omega)|omega);(try case q35=>omega);(try case q36=>first|(rw[j6];omega)|omega);intro v' w9 hown hgrow hat;have HN:=ag (GD HO.out BR zB hown hgrow);clear hown hgrow hat S4;obtain⟨a9,c9,e9⟩:=KE HN.out.1;subst e9;rw[<-HFN.out] at HN |-;clear HFN;go_wp2;go_roundw
   case rel=>exact⟨k+1,a9,c9,aa,aF,rfl,HN.out.1,HN.out.2⟩
   case measure=>exact aK
  ·refine wp_cond_split (congrArg q6 e) (λh=>aT) (λ_=> ?_)
   rw[e] at HFN;clear e;have HFM:Hid (aN c L (k+1)=A2):=HFN.out;clear HFN;rw[<-HFM.out] at HO |-;clear HFM;go_wp2;go_roundw
   case rel=>exact⟨k+1,va,vcp,aa,aF,rfl,HO.out,BR⟩
   case measure=>exact aK
def tP (d:Int):ByteArray:=if d=1 then⟨#[119,114,111,110,103]⟩ else if d=2 then⟨#[102,97,105,108,101,100]⟩ else⟨#[105,100,108,101]⟩
def lU (a:Int×Int):ByteArray:=eJ a.1++⟨#[32]⟩++tP a.2++⟨#[10]⟩
def cH (A:List (Int×Int)):ByteArray:=A.foldl (λt a=>t++lU a) ⟨#[]⟩
def DM (k:Int):ByteArray:=⟨#[101,114,114,111,114,32]⟩++eJ k++⟨#[10]⟩
theorem m8 {A:List (Int×Int)}{k:Nat}(h:k < A.length):cH (A.take (k+1))=cH (A.take k)++lU A[k]:=by
 unfold cH;rw[J9 h,q9];rfl
theorem Es (d:Int):(tP d).size<=6:=by
 unfold tP;split
 ·decide
 ·split<;>decide
theorem vY {a:Int×Int}(h:kF a.1):(lU a).size<=40:=by
 have h1:=kK a.1 h;have h2:=Es a.2;unfold lU;have s1:(⟨#[32]⟩:ByteArray).size=1:=rfl;have s2:(⟨#[10]⟩:ByteArray).size=1:=rfl;rw[ByteArray.size_append,ByteArray.size_append,ByteArray.size_append,s1,s2];omega
theorem tR {A:List (Int×Int)}(h:∀a∈A,kF a.1):∀{k:Nat},k<=A.length->(cH (A.take k)).size<=40 * k
 |0,_=>lR 0
 |k+1,hk=>by
  rw[m8 hk,ByteArray.size_append];have h1:=tR h (k:=k) aa;have h2:=vY (h _ (gM hk));omega
theorem sQ {A:List (Int×Int)}{k kind:Int}{b:Bool}{a:Int×Int}(h:a∈bX A k kind b):a∈A\/a=(k,kind):=by
 unfold bX at h;split at h
 ·simpa using h
 ·exact .inl h
theorem tm {c:lI}{L:List Pic}:∀{k:Nat} {a:Int×Int},a∈aN c L k->0<=a.1/\a.1 < k
 |0,a,h=>by simp[aN] at h
 |k+1,a,h=>by
  rw[gP] at h;unfold lj at h;rcases sQ h with h|rfl
  ·rcases sQ h with h|rfl
   ·rcases sQ h with h|rfl
    ·have:=tm h;omega
    ·simp only;omega
   ·simp only;omega
  ·simp only;omega
theorem pF {p:Prop}(h:p:=by
 go_enter func120,ntmps120;go_wp2;go_ret;exact⟨rfl,Below.refl _ _⟩):p:=h
theorem Lf (d:Int)(w:World):Calls pG 120 #[I Y d] w λe w'=>e=Rt (.string (tP d))/\bl w w':=by
 by_cases h1:d=1
 ·subst h1
  exact pF
 by_cases h2:d=2
 ·subst h2
  exact pF
 have e:tP d=⟨#[105,100,108,101]⟩:=by unfold tP;rw[if_neg h1,if_neg h2]
 rw[e];have b1:(d==1)=false:=gT;have b2:(d==2)=false:=kX;clear e h1 h2;exact pF
theorem DY (a d:Int)(w:World)(hf:kF a)(ht:Tab w):Calls pG 63 #[Ag #[I Y a,I Y d]] w λe w'=>e=Rt (.string (lU (a,d)))/\bl w w':=by
 have B1:Below w.heap.size w (w.alloc (Cc #[I Y a,I Y d] 62)):=am;have X1:Cells (w.alloc (Cc #[I Y a,I Y d] 62)) w.heap.size [I Y a,I Y d]:=Cells.new w _ [_,_];have z1:=kK a hf;have z2:=Es d;go_enter func63,ntmps63;go_upto_region 1 with fail
 generalize w.alloc (Cc #[I Y a,I Y d] 62)=w1 at *;have HKZ:Hid (∀wx,bl w1 wx->wx.cell? ⟨w.heap.size,0,nO⟩=sO (I Y a)/\wx.cell? ⟨w.heap.size,1,nO⟩=sO (I Y d)):=λwx hb=>⟨(X1.call hb).1 0 _ rfl,(X1.call hb).1 1 _ rfl⟩;have B4:=go;refine aG (S:=(λwx=>wx.cell? ⟨w.heap.size,0,nO⟩=sO (I Y a)/\wx.cell? ⟨w.heap.size,1,nO⟩=sO (I Y d))) [] ae (HKZ.out _ B4) (λhHeld=> ?_);generalize w1.drew=w4 at *;refine vZ 0 ?_ ?_;refine vZ 1 ?_ ?_;refine vZ 4 ?_ ?_;refine vZ 5 ?_ ?_;refine aB (i:=2) rfl ae (λK hK=> ?_);go_simp;go_at_call 118;refine(rD a w4 hf (ht.below (B1.trans (B4.mono B1.size)))).mono ?_;rintro e w5 ⟨rfl,hb5⟩;have B5:=kY;go_wp2_with fail;refine hK.out _ _ (HKZ.out _ B5) (λhHeld=> ?_);clear hK K;refine sm ?_;refine tZ 3 (.string (eJ a++⟨#[32]⟩)) ?_ (hy:=Dm);refine sm ?_;refine aB (i:=6) rfl ae (λK hK=> ?_);go_simp;go_at_call 120;refine(Lf d w5).mono ?_;rintro e w6 ⟨rfl,hb6⟩;have B6:=pR;go_wp2_with fail;refine hK.out _ _ (HKZ.out _ B6) (λhHeld=> ?_);clear hK K;refine sm ?_;refine tZ 7 (.string (eJ a++⟨#[32]⟩++tP d)) ?_ (hy:=Dm);refine sm ?_;refine tZ 8 (.string (eJ a++⟨#[32]⟩++tP d++⟨#[10]⟩)) ?_ (hy:=Dm);refine sm ?_;refine vZ 9 ?_ ?_;refine aC ae ?_ _;go_wp2;go_ret;exact⟨rfl,B1.trans (B6.mono B1.size)⟩
theorem Dj (k:Int)(w:World)(hf:kF k)(ht:Tab w):Calls pG 61 #[I Y k] w λe w'=>e=Rt (.string (DM k))/\bl w w':=by
 have z1:=kK k hf;go_enter func61,ntmps61;go_wp2_with fail;refine(rD k w hf ht).mono ?_;rintro e w1 ⟨rfl,hb1⟩;go_wp2;go_ret;exact fA
def ov (s:ByteArray)(e:Ending):Prop:=(4000 < s.size/\e=Rt (Tu #[.string ⟨#[]⟩,I Y 2]))\/(s.size<=4000/\(aD s).2.2≠0/\e=Rt (Tu #[.string (DM (aD s).2.1),I Y 0]))\/(s.size<=4000/\(aD s).2.2=0/\au (aD s).1.1 (aD s).1.2.1 (aD s).1.2.2=0/\∃m,SolvedAt (aD s).1.1 (aD s).1.2.1 (aD s).1.2.2 m/\e=Rt (Tu #[.string (cH (aN (aD s).1.2.2 (aI (aD s).1.1 (aD s).1.2.1 (aD s).1.2.2 m) (aD s).1.2.2.length)),I Y 0]))
theorem EO {s:ByteArray}(hs:s.size<=4000)(h:(aD s).2.2=0):au (aD s).1.1 (aD s).1.2.1 (aD s).1.2.2=0:=by
 unfold aD at h |-;rw[if_neg aa] at h |-;split at h
 ·cases h
 ·rename_i V F c _
  by_cases hk:au V F c=0
  ·simp only[hk,if_true]
  ·simp only[hk,if_false] at h
theorem AU (s:ByteArray)(w:World)(hl:kF (aD s).2.1)(ht:Tab w)(hm:Cap w)(hE:ErrS w):
  Calls pG 25 #[.string s] w λe w'=>ov s e/\bl w w':=by
 by_cases hs:4000 < s.size
 ·have HR:Hid (ov s (Rt (Tu #[.string ⟨#[]⟩,I Y 2]))):=.inl ⟨hs,rfl⟩
  have n1:=pa;clear hs;go_enter func25,ntmps25;go_wp2;refine bodyPost_ret (v:=Tu #[.string ⟨#[]⟩,I Y 2]) Dg rfl ?_;exact⟨HR.out,bR _ _⟩
 have n1:=nz;have HP:=ag (RZ s w ht hm hE);have HRE:Hid ((aD s).2.2≠0->ov s (Rt (Tu #[.string (DM (aD s).2.1),I Y 0]))):=λh=>.inr (.inl ⟨by omega,h,rfl⟩);have HCK:=Hd;have HRO:Hid ((aD s).2.2=0->∀m,SolvedAt (aD s).1.1 (aD s).1.2.1 (aD s).1.2.2 m->ov s (Rt (Tu #[.string (cH (aN (aD s).1.2.2 (aI (aD s).1.1 (aD s).1.2.1 (aD s).1.2.2 m) (aD s).1.2.2.length)),I Y 0]))):=λh m hm=>.inr (.inr ⟨aa,h,EO aa h,m,hm,rfl⟩);clear hs;generalize ov s=RA at *;generalize (aD s).1.1=V at *;generalize (aD s).1.2.1=F at *;generalize (aD s).1.2.2=c at *;generalize (aD s).2.1=ln at *;generalize (aD s).2.2=er at *;go_enter func25,ntmps25;go_wp2_with fail;refine HP.out.mono ?_;rintro e w1 ⟨v,rfl,hown,hb1⟩;obtain⟨sa,sc,rfl,hc1⟩:=dA hown;clear HP hown;have hba:Below w1.heap.size w1 (w1.alloc (Cc #[I Y V,I Y F,U sa c.length sc] 24)):=am;have X2:Cells (w1.alloc (Cc #[I Y V,I Y F,U sa c.length sc] 24)) w1.heap.size [I Y V,I Y F,U sa c.length sc]:=Cells.new w1 _ [_,_,_];have B2:=hb1.trans (hba.mono hb1.size);have C2:=hc1.call hba;clear hc1 hba;go_upto_region 4 with fail
 generalize w1.alloc (Cc #[I Y V,I Y F,U sa c.length sc] 24)=w2 at *;by_cases he:er=0;rotate_left
 ·have f1:(er !=0)=true:=by simpa using he
  have HR:=ag (HRE.out he);clear he HRE HRO HCK;go_wp2_with fail;refine(Dj ln w2 hl (ht.below B2)).mono ?_;rintro e w3 ⟨rfl,hb3⟩;have B3:=fH;go_wp2;refine bodyPost_ret (v:=Tu #[.string (DM ln),I Y 0]) Dg rfl ?_;exact⟨HR.out,B3⟩
 have h0:=HCK.out he;have HR:=ag (HRO.out he);subst he;clear HRE HRO HCK;have x0:=X2.1 0 _ rfl;have x1:=X2.1 1 _ rfl;have x2:=X2.1 2 _ rfl;have HAL:=ag (oq V F sa c sc w2 C2);have h60:=kh;go_wp2_with fail;refine HAL.out.mono ?_;rintro e w3 ⟨hans,hb3⟩;clear HAL x0 x1 x2 X2 C2;have B3:=fH;clear B2 hb3;rcases hans with⟨hx,-⟩|⟨-,m,a,ac,hsv,rfl,hO⟩
 ·exact absurd h0 hx
 have HRR:=ag (HR.out m hsv);have HFI:=In;have HAS:=ag (nI hO);have hll:(aN c (aI V F c m) c.length).length<=180:=Mm;clear hsv hO HR h0;generalize aN c (aI V F c m) c.length=A at *;have HLE:=FM;have HTB:=ag (ht.below B3);clear ht hm hE;have hb4:Below w3.heap.size w3 (w3.alloc (Cc #[Pp nO,U nO 0 0] 122)):=am;have F4:Lib.IsBuilder 122 5 w3.heap.size w3.heap.size (Lib.strCells (cH (A.take 0))) (w3.alloc (Cc #[Pp nO,U nO 0 0] 122)):=.inl ⟨lR _,_,(MapKept.heap_alloc w3 _).1,⟨rfl,.inl ⟨rfl,rfl⟩⟩,(by intro h;cases h)⟩;go_upto_region 8 with fail
 generalize w3.alloc (Cc #[Pp nO,U nO 0 0] 122)=w4 at *;go_wp2;go_loopw [32] (λi wr=>∃k:Nat,k<=A.length/\i=I Y k/\Hid (Lib.IsBuilder 122 5 w3.heap.size w3.heap.size (Lib.strCells (cH (A.take k))) wr)/\bl w3 wr) (λi _=>A.length - (intOf i).toNat)
 case atStart=>exact⟨0,j7 _,rfl,F4,hb4⟩
 case round=>
  clear F4 hb4;obtain⟨k,hk,rfl,HB,BR⟩:=hrel;have s1:=BR.size;by_cases hlt:k < A.length;rotate_left
  ·have n2:=yu
   have ek:A.take k=A:=x4 aa;have hS:Calls pG 64 #[Pp (sO ⟨w3.heap.size,0,nO⟩)] wr λe w'=>e=Rt (.string (cH A))/\Below w3.heap.size wr w':=by
    have h:=HB.out;rw[ek] at h;exact Tryz.Builder_String_any w3.heap.size w3.heap.size _ wr h s1
   have HS:=ag hS;clear hS ek HB;go_wp2_with fail;refine HS.out.mono ?_;rintro e w7 ⟨rfl,hb7⟩;go_wp2;refine bodyPost_ret (v:=Tu #[.string (cH A),I Y 0]) Dg rfl ?_;exact⟨HRR.out,B3.trans ((BR.trans hb7).mono B3.size)⟩
  have n0:=bA;have n2:(k:Int) < (A.length:Int):=aa;obtain⟨b,rfl,hz,c0,c1⟩:=HAS.out.below BR k hlt;have hfa:=HFI.out _ (gM hlt);have HNX:=ag (m8 hlt);have hsz:(Lib.strCells (cH (A.take k))).length+(lU A[k]).size<=140737488355328:=by
   have h1:=HLE.out k hk;have h2:=vY hfa;rw[Lib.strCells_length];omega
  obtain⟨⟨a1,d1⟩,ea⟩:∃q,q=A[k]:=⟨_,rfl⟩;rw[<-ea] at c0 c1 hfa HNX hsz;clear ea HAS;have hba:Below wr.heap.size wr (wr.alloc (Cc #[I Y a1,I Y d1] 62)):=am;have X5:Cells (wr.alloc (Cc #[I Y a1,I Y d1] 62)) wr.heap.size [I Y a1,I Y d1]:=Cells.new wr _ [_,_];have B5:=BR.trans (hba.mono BR.size);have HB5:Hid (Lib.IsBuilder 122 5 w3.heap.size w3.heap.size (Lib.strCells (cH (A.take k))) (wr.alloc (Cc #[I Y a1,I Y d1] 62))):=HB.out.imp (λh=>iR h hba) (λh=>iR h hba);clear HB hba BR;go_upto_region 11 with fail
  generalize wr.alloc (Cc #[I Y a1,I Y d1] 62)=w5 at *;clear c0 c1;have x0:=X5.1 0 _ rfl;have x1:=X5.1 1 _ rfl;go_wp2_with fail;refine(DY a1 d1 w5 hfa (HTB.out.below B5)).mono ?_;rintro e w6 ⟨rfl,hb6⟩;have HB6:Hid (Lib.IsBuilder 122 5 w3.heap.size w3.heap.size (Lib.strCells (cH (A.take k))) w6):=HB5.out.imp (λh=>iR h hb6) (λh=>iR h hb6);have B6:=pR;clear HB5 hb6 X5 x0 x1 B5;have HWS:=ag (Bk w3.heap.size w3.heap.size _ (lU (a1,d1)) w6 HB6.out hsz B6.size);clear HB6 hsz;generalize lU (a1,d1)=ab at *;go_wp2_with fail;refine HWS.out.mono ?_;rintro e w7 ⟨rfl,ha7,hb7⟩;have HB7:Hid (Lib.IsBuilder 122 5 w3.heap.size w3.heap.size (Lib.strCells (cH (A.take (k+1)))) w7):=by
   show Lib.IsBuilder _ _ _ _ _ _;rw[HNX.out,Ax];exact .inr ha7
  clear ha7 HWS;go_wp2;go_roundw
  case rel=>exact⟨k+1,aa,aF,HB7.out,B6.trans hb7⟩
  case measure=>exact aK
theorem tD {A:List (Int×Int)}{k kind:Int}{b:Bool}{a:Int×Int}:a∈bX A k kind b↔a∈A\/(b=true/\a=(k,kind)):=by
 unfold bX;cases b<;>simp
theorem alarmsTo_in {c:lI}{L:List Pic}{k d:Int}:∀{n:Nat},(k,d)∈aN c L n↔(0<=k/\k < n)/\((d=1/\(aA (bL c k) k (bm L k)).2.1=true)\/(d=2/\(aA (bL c k) k (bm L k)).2.2=true)\/(d=3/\(bm L k).none=true))
 |0=>by simp[aN];omega
 |n+1=>by
  rw[gP];unfold lj;rw[tD,tD,tD,alarmsTo_in (n:=n)];simp only[Prod.mk.injEq];constructor
  ·rintro (((⟨⟨h1,h2⟩,h3⟩|⟨hb,rfl,rfl⟩)|⟨hb,rfl,rfl⟩)|⟨hb,rfl,rfl⟩)
   ·exact⟨⟨h1,aa⟩,h3⟩
   ·exact⟨⟨aa,aa⟩,.inl ⟨rfl,hb⟩⟩
   ·exact⟨⟨aa,aa⟩,.inr (.inl ⟨rfl,hb⟩)⟩
   ·exact⟨⟨aa,aa⟩,.inr (.inr ⟨rfl,hb⟩)⟩
  ·rintro ⟨⟨h1,h2⟩,h3⟩
   by_cases e:k=n
   ·subst e
    rcases h3 with⟨rfl,h⟩|⟨rfl,h⟩|⟨rfl,h⟩
    ·exact .inl (.inl (.inr ⟨h,rfl,rfl⟩))
    ·exact .inl (.inr ⟨h,rfl,rfl⟩)
    ·exact .inr ⟨h,rfl,rfl⟩
   ·exact .inl (.inl (.inl ⟨⟨h1,aa⟩,h3⟩))
def addC:lI:=[⟨5,0,0,0,0,0⟩,⟨18,0,0,0,0,0⟩]
def expC:lI:=[⟨17,0,0,0,0,0⟩]
theorem On:SolvedAt 1 0 addC 0:=⟨λk hk=>absurd hk aa,fK⟩
theorem OM:SolvedAt 1 0 expC 0:=⟨λk hk=>absurd hk aa,fK⟩
theorem Of:aN addC (aI 1 0 addC 0) addC.length=[(0,1),(1,3)]:=fK
theorem NQ:aN expC (aI 1 0 expC 0) expC.length=[(0,2)]:=fK
theorem PN:aN smallC (aI 1 0 smallC 1) smallC.length=[]:=fK
theorem add_ck:au 1 0 addC=0/\au 1 0 expC=0:=fK
theorem Gt:SolvedAt 1 0 smallC 1:=by
 refine⟨λk hk=> ?_,fK⟩;have:k=0:=aa;subst this;decide+kernel
theorem Pq:au 1 0 smallC=0:=fK
def OO:ByteArray:=⟨#[118,97,114,115,32,49,32,102,105,101,108,100,115,32,48,10,101,120,112,101,99,116,32,48,10]⟩
theorem tT:aD OO=((1,0,expC),0,0):=ae
theorem Up:cH [(0,2)]=⟨#[48,32,102,97,105,108,101,100,10]⟩:=fK
theorem SQ (b:Nat)(w:World)(hc:CodeAt w (sO ⟨b,0,nO⟩) addC):Calls pG 20 #[pv 1 0 (sO ⟨b,0,nO⟩) addC 2] w λe w'=>(∃q ac,e=Rt (Tu #[U (sO ⟨q,0,nO⟩) 2 ac,I Y 0])/\q < w'.heap.size/\w'.cell? ⟨q,0,nO⟩=sO (I Y 0)/\w'.cell? ⟨q,1,nO⟩=sO (I Y 1)/\w'.cell? ⟨q,2,nO⟩=sO (I Y 1)/\w'.cell? ⟨q,3,nO⟩=sO (I Y 3))/\bl w w':=by
 refine(oq 1 0 (sO ⟨b,0,nO⟩) addC 2 w hc).mono ?_;rintro e w' ⟨h,hb⟩;refine⟨?_,hb⟩;rcases h with⟨h,_⟩|⟨_,m,a,ac,hs,rfl,hO⟩
 ·exact absurd add_ck.1 h
 ·obtain rfl:=hs.one On
  rw[Of] at hO |-;have h:=nI (A:=[(0,1),(1,3)]) hO;obtain⟨q,rfl,hz,c0,c1⟩:=h 0 ah;obtain⟨q2,e2,_,c2,c3⟩:=h 1 ah;cases e2;exact⟨q,ac,rfl,hz,c0,c1,c2,c3⟩
theorem Sb (b:Nat)(w:World)(hc:CodeAt w (sO ⟨b,0,nO⟩) smallC):Calls pG 21 #[pv 1 0 (sO ⟨b,0,nO⟩) smallC 2] w λe w'=>e=Rt (Tu #[Bb true,I Y 0])/\bl w w':=by
 refine(Uh 1 0 (sO ⟨b,0,nO⟩) smallC 2 w hc).mono ?_;rintro e w' ⟨h,hb⟩;refine⟨?_,hb⟩;rcases h with⟨h,_⟩|⟨_,m,hs,rfl⟩
 ·exact absurd Pq h
 ·obtain rfl:=hs.one Gt
  rw[PN];rfl
theorem Ty (w:World)(ht:Tab w)(hm:Cap w)(hE:ErrS w):Calls pG 25 #[.string OO] w λe w'=>e=Rt (Tu #[.string ⟨#[48,32,102,97,105,108,101,100,10]⟩,I Y 0])/\bl w w':=by
 refine(AU OO w (by rw[tT];exact⟨by decide,by decide⟩) ht hm hE).mono ?_;rintro e w' ⟨h,hb⟩;refine⟨?_,hb⟩;unfold ov at h;rw[tT] at h;rcases h with⟨h,_⟩|⟨_,h,_⟩|⟨_,_,_,m,hs,rfl⟩
 ·exact absurd h fK
 ·exact absurd rfl h
 ·obtain rfl:=hs.one OM
  simp only;rw[NQ,Up]
theorem kU (w:World)(ht:Tab w)(hm:Cap w)(hE:ErrS w):Calls pG 24 #[] w λe w'=>e=Rt (Bb true)/\bl w w':=by
 have B2:Below w.heap.size w ((w.alloc (Cc #[I Y 5,I Y 0,I Y 0,I Y 0,I Y 0,I Y 0,I Y 18,I Y 0,I Y 0,I Y 0,I Y 0,I Y 0] 100)).alloc (Cc #[I Y 1,I Y 0,U (sO ⟨w.heap.size,0,nO⟩) 2 2] 24)):=am;have P2:Cells ((w.alloc (Cc #[I Y 5,I Y 0,I Y 0,I Y 0,I Y 0,I Y 0,I Y 18,I Y 0,I Y 0,I Y 0,I Y 0,I Y 0] 100)).alloc (Cc #[I Y 1,I Y 0,U (sO ⟨w.heap.size,0,nO⟩) 2 2] 24)) (w.heap.size+1) [I Y 1,I Y 0,U (sO ⟨w.heap.size,0,nO⟩) 2 2]:=by
  have h:=Cells.new (w.alloc (Cc #[I Y 5,I Y 0,I Y 0,I Y 0,I Y 0,I Y 0,I Y 18,I Y 0,I Y 0,I Y 0,I Y 0,I Y 0] 100)) 24 [I Y 1,I Y 0,U (sO ⟨w.heap.size,0,nO⟩) 2 2];rw[j6] at h;exact h
 have C2:CodeAt ((w.alloc (Cc #[I Y 5,I Y 0,I Y 0,I Y 0,I Y 0,I Y 0,I Y 18,I Y 0,I Y 0,I Y 0,I Y 0,I Y 0] 100)).alloc (Cc #[I Y 1,I Y 0,U (sO ⟨w.heap.size,0,nO⟩) 2 2] 24)) (sO ⟨w.heap.size,0,nO⟩) addC:=by
  have h:Cells ((w.alloc (Cc #[I Y 5,I Y 0,I Y 0,I Y 0,I Y 0,I Y 0,I Y 18,I Y 0,I Y 0,I Y 0,I Y 0,I Y 0] 100)).alloc (Cc #[I Y 1,I Y 0,U (sO ⟨w.heap.size,0,nO⟩) 2 2] 24)) w.heap.size [I Y 5,I Y 0,I Y 0,I Y 0,I Y 0,I Y 0,I Y 18,I Y 0,I Y 0,I Y 0,I Y 0,I Y 0]:=(Cells.new w 100 [I Y 5,I Y 0,I Y 0,I Y 0,I Y 0,I Y 0,I Y 18,I Y 0,I Y 0,I Y 0,I Y 0,I Y 0]).call am;refine .inr ⟨_,_,rfl,h.2.1,λk hk=> ?_⟩
  match k,hk with
  |0,_=>exact⟨h.1 0 _ rfl,h.1 1 _ rfl,h.1 2 _ rfl,h.1 3 _ rfl,h.1 4 _ rfl,h.1 5 _ rfl⟩
  |1,_=>exact⟨h.1 6 _ rfl,h.1 7 _ rfl,h.1 8 _ rfl,h.1 9 _ rfl,h.1 10 _ rfl,h.1 11 _ rfl⟩
  |k+2,h=>exact absurd h (by simp[addC])
 have HRP:Hid (∀wx,bl w wx->Calls pG 25 #[.string ⟨#[118,97,114,115,32,49,32,102,105,101,108,100,115,32,48,10,101,120,112,101,99,116,32,48,10]⟩] wx λe w'=>e=Rt (Tu #[.string ⟨#[48,32,102,97,105,108,101,100,10]⟩,I Y 0])/\bl wx w'):=λwx hb=>Ty wx (ht.below hb) (hm.below hb) (hE.below hb);clear ht hm hE;go_enter func24,ntmps24;go_upto_region 2 with fail
 generalize ((w.alloc (Cc #[I Y 5,I Y 0,I Y 0,I Y 0,I Y 0,I Y 0,I Y 18,I Y 0,I Y 0,I Y 0,I Y 0,I Y 0] 100)).alloc (Cc #[I Y 1,I Y 0,U (sO ⟨w.heap.size,0,nO⟩) 2 2] 24))=w2 at *;have p0:=P2.1 0 _ rfl;have p1:=P2.1 1 _ rfl;have p2:=P2.1 2 _ rfl;go_wp2_with fail;refine(SQ _ _ C2).mono ?_;rintro e w3 ⟨⟨q,ac,rfl,hz,c0,c1,c2,c3⟩,hb3⟩;have B3:=fH;clear p0 p1 p2 P2 C2 B2 hb3;go_wp2_with fail;refine(R8 _).mono ?_;rintro e w4 ⟨b4,rfl,C4,hb4⟩;go_wp2_with fail;refine(Sb _ _ C4).mono ?_;rintro e w5 ⟨rfl,hb5⟩;have b35:=hb4.trans (hb5.mono hb4.size);have B5:=B3.trans (b35.mono B3.size);go_wp2_with fail;refine(HRP.out w5 B5).mono ?_;rintro e w6 ⟨rfl,hb6⟩;have b36:=b35.trans (hb6.mono b35.size);have B6:=B3.trans (b36.mono B3.size);have d0:w6.cell? ⟨q,0,nO⟩=sO (I Y 0):=by rw[b36.cell (by simp only;exact hz)];exact c0
 have d1:w6.cell? ⟨q,1,nO⟩=sO (I Y 1):=by rw[b36.cell (by simp only;exact hz)];exact c1
 have d2:w6.cell? ⟨q,2,nO⟩=sO (I Y 1):=by rw[b36.cell (by simp only;exact hz)];exact c2
 have d3:w6.cell? ⟨q,3,nO⟩=sO (I Y 3):=by rw[b36.cell (by simp only;exact hz)];exact c3
 clear c0 c1 c2 c3 HRP C4 hb4 hb5 hb6 b35 b36 B5 B3;go_wp2;refine bodyPost_ret (v:=Bb true) ae rfl ⟨rfl,B6⟩
end
section
open Go.RowKit
theorem vM:∀{l:List (List UInt8)} {k e:Nat},eF k l=.error e->e<=k+l.length
 |[],k,e,h=>by simp[eF] at h;omega
 |[x],k,e,h=>by
  unfold eF at h;split at h
  ·cases h
  ·cases h;simp
 |x::y::r,k,e,h=>by
  unfold eF at h;split at h
  ·cases h;simp
  ·split at h
   ·rename_i e' h'
    cases h;have:=vM h';simp only[z7] at this |-;omega
   ·cases h
theorem Im {s:List UInt8}{e:Nat}(h:d8 s=.error e):e<=s.length+4:=by
 have hl:=kL 10 s;unfold d8 at h;split at h
 ·rename_i x y r hc
  rw[hc] at hl;split at h
  ·cases h;omega
  ·split at h
   ·rename_i e' h'
    cases h;have:=vM h';simp only[z7] at this hl;omega
   ·cases h
 ·cases h;omega
theorem vw (s:ByteArray):kF (aD s).2.1:=by
 unfold aD;split
 ·exact⟨ai,ai⟩
 ·rename_i hs
  split
  ·rename_i k hk
   have h1:=Im hk;have h2:s.data.toList.length=s.size:=(mN s _ rfl).symm;exact⟨aw,aw⟩
  ·split
   ·exact Kz
   ·exact Kz
end
section
open Go.RowKit
attribute [local go_sem ↓] Go.wp_at_zero Go.wp_at_succ
theorem Ss {V F:Int}{c:lI}(h0:au V F c=0):∃m,SolvedAt V F c m:=by
 refine Classical.byContradiction λhno=> ?_;have all:∀m k,k < m->(du c ((k+1:Nat):Int) (aI V F c k)).2=true:=by
  intro m;induction m with
  |zero=>exact λk hk=>absurd hk aa
  |succ m ih=>
   intro k hk;by_cases e:k=m
   ·subst e
    refine Classical.byContradiction λhf=>hno ⟨k,ih,?_⟩;simpa using hf
   ·exact ih k aa
 have:=kB h0 (m:=200000000000001) (all _);omega
theorem FC {c:lI}{L:List Pic}{n:Nat}{a:Int×Int}(h:a∈aN c L n):a.2=1\/a.2=2\/a.2=3:=by
 obtain⟨k,d⟩:=a;rcases (alarmsTo_in.1 h).2 with⟨h,_⟩|⟨h,_⟩|⟨h,_⟩
 ·exact .inl h
 ·exact .inr (.inl h)
 ·exact .inr (.inr h)
theorem pq {p:Prop}(h:p:=by
 clear HNX HX;go_wp2_with fail;refine(nY a1 wr hf1).mono ?_;rintro e w9 ⟨rfl,hb9⟩;have BN:=BR.trans (hb9.mono BR.size);clear BR hb9 c1 e1;go_wp2;go_roundw
 case rel=>exact⟨k+1,_,aa,aF,rfl,HN.out,BN⟩
 case measure=>exact aK):p:=h
theorem wT (s:ByteArray)(w:World)(ht:Tab w)(hm:Cap w)(hE:ErrS w):
  Calls pG 7 #[.string s] w λe w'=>e=Rt (Bb true)/\bl w w':=by
 have HTB:=ag (λwx (hb:bl w wx)=>ht.below hb);have HMB:=ag (λwx (hb:bl w wx)=>hm.below hb);have HEB:=ag (λwx (hb:bl w wx)=>hE.below hb);have HRP:=ag (AU s w (vw s) ht hm hE);have HPO:=ag (λwx=>Lu s wx);have hfl:=vw s;have hsz:=lR s.size;clear ht hm hE;by_cases hs:4000 < s.size
 ·have HR1:Hid (Calls pG 25 #[.string s] w λe w'=>e=Rt (Tu #[.string ⟨#[]⟩,I Y 2])/\bl w w'):=by
   refine HRP.out.mono ?_;rintro e w' ⟨⟨_,rfl⟩|⟨h,_⟩|⟨h,_⟩,hb'⟩
   ·exact⟨rfl,hb'⟩
   ·omega
   ·omega
  have n1:=pa;clear HRP hs hsz hfl;unfold Gg at HPO;generalize (aD s).1.1=V at *;generalize (aD s).1.2.1=F at *;generalize (aD s).1.2.2=c at *;generalize (aD s).2.1=ln at *;generalize (aD s).2.2=er at *;go_enter func7,ntmps7;go_wp2_with fail;refine HR1.out.mono ?_;rintro e w1 ⟨rfl,hb1⟩;clear HR1;go_wp2_with fail;refine(HPO.out w1).mono ?_;rintro e w2 ⟨⟨v2,rfl,hown⟩,hb2⟩;obtain⟨sa,sc,rfl,-⟩:=dA hown;have hb3:=wH;have B2:=lE;have B3:=fH;clear hown HPO hb1 hb2 hb3 B2;go_upto_region 3 with fail
  generalize w2.alloc (Cc #[I Y V,I Y F,U sa c.length sc] 24)=w3 at *;go_wp2_with fail;refine(kU w3 (HTB.out w3 B3) (HMB.out w3 B3) (HEB.out w3 B3)).mono ?_;rintro e w4 ⟨rfl,hb4⟩;have B4:=li;go_wp2;go_ret;exact⟨rfl,B4⟩
 have n1:=nz;have HCK:=Hd;unfold Gg at HPO;by_cases he:(aD s).2.2=0;rotate_left
 ·have HR1:Hid (Calls pG 25 #[.string s] w λe w'=>e=Rt (Tu #[.string (DM (aD s).2.1),I Y 0])/\bl w w'):=by
   refine HRP.out.mono ?_;rintro e w' ⟨⟨h,_⟩|⟨_,_,rfl⟩|⟨_,h,_⟩,hb'⟩
   ·exact absurd h hs
   ·exact⟨rfl,hb'⟩
   ·exact absurd h he
  clear HRP hs hsz HCK;generalize (aD s).1.1=V at *;generalize (aD s).1.2.1=F at *;generalize (aD s).1.2.2=c at *;generalize (aD s).2.1=ln at *;generalize (aD s).2.2=er at *;have f1:(er !=0)=true:=by simpa using he
  have z1:=kK ln hfl;clear he;go_enter func7,ntmps7;go_wp2_with fail;refine HR1.out.mono ?_;rintro e w1 ⟨rfl,hb1⟩;clear HR1;go_wp2_with fail;refine(HPO.out w1).mono ?_;rintro e w2 ⟨⟨v2,rfl,hown⟩,hb2⟩;obtain⟨sa,sc,rfl,-⟩:=dA hown;have hb3:=wH;have B2:=lE;have B3:=fH;clear hown HPO hb1 hb2 hb3 B2;go_upto_region 3 with fail
  generalize w2.alloc (Cc #[I Y V,I Y F,U sa c.length sc] 24)=w3 at *;go_wp2_with fail;refine(nY ln w3 hfl).mono ?_;rintro e w4 ⟨rfl,hb4⟩;have B4:=li;unfold DM;clear B3 hb4;go_wp2_with fail;refine(kU w4 (HTB.out w4 B4) (HMB.out w4 B4) (HEB.out w4 B4)).mono ?_;rintro e w5 ⟨rfl,hb5⟩;have B5:=kY;go_wp2;go_ret;exact⟨rfl,B5⟩
 have h0:=HCK.out he;obtain⟨m,HR1,hsv⟩:∃m,Hid (Calls pG 25 #[.string s] w λe w'=>e=Rt (Tu #[.string (cH (aN (aD s).1.2.2 (aI (aD s).1.1 (aD s).1.2.1 (aD s).1.2.2 m) (aD s).1.2.2.length)),I Y 0])/\bl w w')/\SolvedAt (aD s).1.1 (aD s).1.2.1 (aD s).1.2.2 m:=by
  obtain⟨m,hsv⟩:=Ss h0;refine⟨m,?_,hsv⟩;refine HRP.out.mono ?_;rintro e w' ⟨⟨h,_⟩|⟨_,h,_⟩|⟨_,_,_,m',hs',rfl⟩,hb'⟩
  ·exact absurd h hs
  ·exact absurd he h
  ·obtain rfl:=hs'.one hsv
   exact⟨rfl,hb'⟩
 clear HRP hs hsz HCK hfl;generalize (aD s).1.1=V at *;generalize (aD s).1.2.1=F at *;generalize (aD s).1.2.2=c at *;generalize (aD s).2.1=ln at *;generalize (aD s).2.2=er at *;subst he;have h60:=kh;have HAO:=ag (λwx sa sc (hc:CodeAt wx sa c)=>Gy V F sa c sc m wx hc h0 hsv);have HFI:=In;have HKI:Hid (∀q∈aN c (aI V F c m) c.length,q.2=1\/q.2=2\/q.2=3):=λq hq=>FC hq;have hll:(aN c (aI V F c m) c.length).length<=180:=Mm;generalize aN c (aI V F c m) c.length=A at *;clear hsv h0 h60;have HLE:=FM;obtain⟨TT,eTT⟩:∃t,t=cH A:=⟨_,rfl⟩;rw[<-eTT] at HR1;have HTT:=ag eTT;clear eTT;go_enter func7,ntmps7;go_wp2_with fail;refine HR1.out.mono ?_;rintro e w1 ⟨rfl,hb1⟩;clear HR1;go_wp2_with fail;refine(HPO.out w1).mono ?_;rintro e w2 ⟨⟨v2,rfl,hown⟩,hb2⟩;obtain⟨sa,sc,rfl,hc2⟩:=dA hown;have hb3:=wH;have B2:=lE;have B3:=fH;have P3:Cells (w2.alloc (Cc #[I Y V,I Y F,U sa c.length sc] 24)) w2.heap.size [I Y V,I Y F,U sa c.length sc]:=Cells.new w2 _ [_,_,_];have C3:=hc2.call hb3;clear hown HPO hb1 hb2 hb3 B2 hc2;go_upto_region 3 with fail
 generalize w2.alloc (Cc #[I Y V,I Y F,U sa c.length sc] 24)=w3 at *;have p0:=P3.1 0 _ rfl;have p1:=P3.1 1 _ rfl;have p2:=P3.1 2 _ rfl;go_wp2_with fail;refine(HAO.out w3 sa sc C3).mono ?_;rintro e w4 ⟨⟨a,ac,rfl,hD⟩,hb4⟩;have HD:=ag hD;have B4:=li;clear hD HAO p0 p1 p2 P3 C3 hb4 B3;go_wp2;go_loopw [8,10] (λv i wr=>∃(k:Nat) (X:ByteArray),k<=A.length/\i=I Y k/\v=.string X/\Hid (X=cH (A.take k))/\bl w4 wr) (λ_ i _=>A.length - (intOf i).toNat)
 case atStart=>exact⟨0,_,j7 _,rfl,rfl,rfl,bR _ _⟩
 case round=>
  obtain⟨k,X,hk,rfl,rfl,HX,BR⟩:=hrel;by_cases hlt:k < A.length;rotate_left
  ·have n2:=yu
   have HF:Hid (X=TT):=by show _=_;rw[HX.out,HTT.out,x4 (by omega)]
   obtain rfl:=HF.out;have B5:=B4.trans (BR.mono B4.size);clear HX HTT HF B4 BR HD;generalize wr=w5 at *;go_wp2_with fail;refine(kU w5 (HTB.out w5 B5) (HMB.out w5 B5) (HEB.out w5 B5)).mono ?_;rintro e w6 ⟨rfl,hb6⟩;have B6:=pR;go_wp2;go_ret;exact⟨rfl,B6⟩
  have m0:=bA;have m1:(k:Int) < (A.length:Int):=aa;obtain⟨b1,rfl,z1,c1,e1⟩:=HD.out.below BR k hlt;have hf1:=HFI.out _ (gM hlt);have hki:=HKI.out _ (gM hlt);have HNX:=ag (m8 hlt);have zX:X.size<=40 * k:=by rw[HX.out];exact HLE.out k hk
  obtain⟨⟨a1,d1⟩,ea⟩:∃q,q=A[k]:=⟨_,rfl⟩;rw[<-ea] at c1 e1 HNX hf1 hki;clear ea;simp only at c1 e1 HNX hf1 hki;have zi:=kK a1 hf1;rcases hki with e|e|e
  ·subst e
   have HN:Hid (X++(eJ a1++⟨#[32]⟩++⟨#[119,114,111,110,103]⟩++⟨#[10]⟩)=cH (A.take (k+1))):=Dp;exact pq
  ·subst e
   have HN:Hid (X++(eJ a1++⟨#[32]⟩++⟨#[102,97,105,108,101,100]⟩++⟨#[10]⟩)=cH (A.take (k+1))):=Dp;exact pq
  ·subst e
   have HN:Hid (X++(eJ a1++⟨#[32]⟩++⟨#[105,100,108,101]⟩++⟨#[10]⟩)=cH (A.take (k+1))):=Dp;exact pq
end
end Go.Proofs.YtmapdpcfanecdabGreatDoor
