/- For every text that the law AlarmReports is handed, it returns true and leaves it as it was: Report of package alarm answers just what the document's own words ask, errors too. No condition but the row's own: the listed package-level variables hold what the program's text lays. -/
import Derived.Test.YtmapdpcfanecdabGreatDoorR41
import Derived.Test.YtmapdpcfanecdabGreatDoorR42
import Derived.Test.YtmapdpcfanecdabGreatDoorR43
import Derived.Test.YtmapdpcfanecdabGreatDoorR44
import Derived.Test.YtmapdpcfanecdabGreatDoorR45
import Derived.Test.YtmapdpcfanecdabGreatDoorR46
import Derived.Test.YtmapdpcfanecdabGreatDoorR37
import Derived.Test.YtmapdpcfanecdabGreatDoorR38
import Derived.Test.YtmapdpcfanecdabGreatDoorR39
import Derived.Test.YtmapdpcfanecdabGreatDoorR40
import Derived.Test.YtmapdpcfanecdabGreatDoorR49
import Derived.Test.YtmapdpcfanecdabGreatDoorR50
import Derived.Test.YtmapdpcfanecdabGreatDoorR53
import Derived.ChangeMaps5
open Bool renaming eq_false_or_eq_true→j0
open Go.Ending renaming returned→Rt
open Go.IntKind renaming i64→Y
open Go.Obj renaming cells→Cc
open Go.Proofs.Tryz renaming prog→pG
open Go.RowKit.Below renaming refl→bR
open Go.Value renaming agg→Ag,bool→Bb,bool→j2,int→I,pointer→Pp,slice→U,tuple→Tu
open Go.World renaming grownBy_alloc→j5,size_alloc→zA
open Int renaming eq_ofNat_of_zero_le→j4
open List renaming getElem_mem→gM,length_cons→j7,range→j3,take_of_length_le→j6
open Nat renaming le_refl→lR,zero_le→j1
open Option renaming none→nO,some→j8,some→sO
set_option linter.unusedSimpArgs false
set_option linter.unusedVariables false
set_option maxHeartbeats 80000000
set_option maxRecDepth 100000
namespace Go.Proofs.YtmapdpcfanecdabGreatDoor
section
open Go.RowKit
theorem KO (w:World)(g:Gs)(ss:oA)(gc:Nat)(h:Gs)(st:oA)(hc:Nat)(hs:IntsAt w ss g.s)(hgl:g.s.length<=9223372036854775807)(ht:IntsAt w st h.s)(hhl:h.s.length<=9223372036854775807):
  Calls pG 115 #[I Y 9,gv g ss gc,gv h st hc] w λe w'=>e=Rt (if (ag g||ag h)=true then Tu #[gv noneG nO 0,Bb false] else Tu #[gv ⟨false,⟨true,0,0⟩,(g.n&&h.n)||(!(au g.sp h.sp).n||((g.t&&h.t)||((g.f&&h.f)||g.s.any λx=>h.s.contains x))),!cL g h,[]⟩ nO 0,Bb false])/\Below w.heap.size w w':=by
 have c1:g.n=true\/g.n=false:=by cases g.n<;>simp
 have c2:h.n=true\/h.n=false:=by cases h.n<;>simp
 by_cases hS:br g < 0\/br g≠br h
 ·rcases c1 with e1|e1
  ·rcases c2 with e2|e2
   ·exact El w g ss gc h st hc hs hgl ht hhl e1 e2 hS
   ·exact Eo w g ss gc h st hc hs hgl ht hhl e1 e2 hS
  ·exact Eh w g ss gc h st hc hs hgl ht hhl e1 hS
 ·have h1:¬br g < 0:=λh=>hS (.inl h)
  have h2:br g=br h:=Classical.byContradiction λh=>hS (.inr h);rcases c1 with e1|e1
  ·rcases c2 with e2|e2
   ·exact DM w g ss gc h st hc hs hgl ht hhl e1 e2 h1 h2
   ·exact Ek w g ss gc h st hc hs hgl ht hhl e1 e2 h1 h2
  ·exact Ds w g ss gc h st hc hs hgl ht hhl e1 h1 h2
theorem mb {p:Prop}(h:p:=by
 rintro e w' ⟨rfl,hb⟩;cases hn:(ag g||ag h)
 ·exact⟨none,0,by rw[if_neg (by simp),yj (by omega) hn],.inl ⟨by rw[yj (by omega) hn],rfl,rfl⟩,hb⟩
 ·exact⟨none,0,by rw[if_pos rfl,gk (by omega) hn],.inl ⟨by rw[gk (by omega) hn];rfl,rfl,rfl⟩,hb⟩):p:=h
theorem GO {V F:Int}{c:List Ins}(g:Gs)(ss:oA)(gc:Nat)(h:Gs)(st:oA)(hc:Nat)(k:Int)(w:World)(hs:IntsAt w ss g.s)(hgl:g.s.length<=9223372036854775807)(ht:IntsAt w st h.s)(hhl:h.s.length<=9223372036854775807)(hck:aQ V F c [g,h]=0)(hk:¬(k < 4\/10 < k)):
  Calls pG 115 #[I Y k,gv g ss gc,gv h st hc] w λe w'=>∃vs vc,e=Rt (Tu #[gv (cu k g h).1 vs vc,Bb (cu k g h).2])/\(((cu k g h).1.s=[]/\vs=nO/\vc=0)\/(vs=ss/\vc=gc/\(cu k g h).1.s=g.s))/\Below w.heap.size w w':=by
 obtain⟨-,hg,hh⟩:=lG hck;have ok1:=ckSp_ok.mp (im hg);have ok2:=ckSp_ok.mp (im hh);have h7:k=4\/k=5\/k=6\/k=7\/k=8\/k=9\/k=10:=by omega
 rcases h7 with rfl|rfl|rfl|rfl|rfl|rfl|rfl
 ·refine(KU w g ss gc h st hc).mono ?_
  rintro e w' ⟨rfl,hb⟩;cases hn:ag g
  ·exact⟨ss,gc,by rw[if_neg (by simp),yd],.inr ⟨rfl,rfl,by rw[yd]⟩,hb⟩
  ·exact⟨nO,0,by rw[if_pos rfl,yd,lS hn hg],.inl ⟨by rw[yd,lS hn hg];rfl,rfl,rfl⟩,hb⟩
 ·refine(KJ w g ss gc h st hc ok1 ok2).mono ?_
  exact mb
 ·refine(KL w g ss gc h st hc ok1 ok2).mono ?_
  exact mb
 ·refine(KN w g ss gc h st hc ok1 ok2).mono ?_
  exact mb
 ·refine(KW w g ss gc h st hc).mono ?_
  rintro e w' ⟨rfl,hb⟩;cases hn:(ag g||ag h)
  ·exact⟨nO,0,by rw[if_neg (by simp),Fr hn],.inl ⟨by rw[Fr hn],rfl,rfl⟩,hb⟩
  ·exact⟨nO,0,by rw[if_pos rfl,gk (by omega) hn],.inl ⟨by rw[gk (by omega) hn];rfl,rfl,rfl⟩,hb⟩
 ·refine(KO w g ss gc h st hc hs hgl ht hhl).mono ?_
  rintro e w' ⟨rfl,hb⟩;cases hn:(ag g||ag h)
  ·exact⟨nO,0,by rw[if_neg (by simp),FB hn],.inl ⟨by rw[FB hn],rfl,rfl⟩,hb⟩
  ·exact⟨nO,0,by rw[if_pos rfl,gk (by omega) hn],.inl ⟨by rw[gk (by omega) hn];rfl,rfl,rfl⟩,hb⟩
 ·refine(Kv w g ss gc h st hc).mono ?_
  rintro e w' ⟨rfl,hb⟩;cases hn:ag g
  ·exact⟨nO,0,by rw[if_neg (by simp),sq],.inl ⟨by rw[sq],rfl,rfl⟩,hb⟩
  ·exact⟨nO,0,by rw[if_pos rfl,sq,lS hn hg,no_none.1,no_none.2];rfl,.inl ⟨by rw[sq],rfl,rfl⟩,hb⟩
end
section
open Go.RowKit
attribute [local go_sem ↓] Go.wp_at_zero Go.wp_at_succ
theorem pM {p:Prop}(h:p:=by
 have a0:=AP.1 0 _ rfl;have e0:=EP.1 0 _ rfl;have a1:=AP.1 1 _ rfl;have e1:=EP.1 1 _ rfl;have a2:=AP.1 2 _ rfl;have e2:=EP.1 2 _ rfl;have a3:=AP.1 3 _ rfl;have e3:=EP.1 3 _ rfl;have a4:=AP.1 4 _ rfl;have e4:=EP.1 4 _ rfl;have a5:=AP.1 5 _ rfl;have e5:=EP.1 5 _ rfl;have a6:=AP.1 6 _ rfl;have e6:=EP.1 6 _ rfl;go_wp2_with (go_at_call 115;fail);refine(HDO.out wp BP).mono ?_;rintro e wd ⟨ss,cp,rfl,HJ0,hbd⟩;have HJ:=aa HJ0;clear HJ0 HDO a0 e0 a1 e1 a2 e2 a3 e3 a4 e4 a5 e5 a6 e6 i0 q19 q18 q16 q15 q17 q13 q12 q11 q1 q14 q2 q3;have TQ:=TP.call hbd;have IQ:=IP.call hbd;have YQ:=YP.call hbd;have OQ:=OP.call hbd;have BQ:=BP.trans (hbd.mono BP.size);have YWQ:=YW.trans (hbd.mono YW.size);clear TP IP YP OP BP YW hbd PP XP AP EP;have TP:=TQ;have IP:=IQ;have YP:=YQ;have OP:=OQ;have BP:=BQ;have YW:=YWQ;clear TQ IQ YQ OQ BQ YWQ;have z0:=TP.1 0 _ rfl;have fz0:=TP.2.2 0;have z1:=TP.1 1 _ rfl;have fz1:=TP.2.2 1;have z2:=TP.1 2 _ rfl;have fz2:=TP.2.2 2;have z3:=TP.1 3 _ rfl;have fz3:=TP.2.2 3;have z4:=TP.1 4 _ rfl;have fz4:=TP.2.2 4;have z5:=TP.1 5 _ rfl;have fz5:=TP.2.2 5;have z6:=TP.1 6 _ rfl;have fz6:=TP.2.2 6
 go_upto_region 84 with fail
 clear z0 fz0 z1 fz1 z2 fz2 z3 fz3 z4 fz4 z5 fz5 z6 fz6;obtain⟨wx,ewx⟩:∃q,q=bm wd (w11.heap.size) 0 [.bool gg.n,.bool gg.sp.n,.int .i64 gg.sp.lo,.int .i64 gg.sp.hi,.bool gg.t,.bool gg.f,.slice ss gg.s.length cp]:=⟨_,rfl⟩;have PU:=bE TP 0 _ ewx;simp only[bm] at ewx;rw[<-ewx];clear ewx;have TX:=PU.cells;have IX:=PU.keep IP;have YX:=PU.keep YP;have OX:=PU.keep OP;have BX:=PU.low (by omega) BP;have YWX:=PU.low (by omega) YW;have HGI:Hid (IntsIn (λb=>(T b/\b < w.heap.size)\/w3.heap.size<=b) wx ss gg.s):=(PU.ints HJ.out.1 (λq hq=>by omega)).mono λb hb _=>.inl hb;have HCP:Hid (gg.s.length<=cp/\cp<=maxLen):=HJ.out.2;clear PU HJ HGW;rcases Bool.eq_false_or_eq_true (ag gg) with hn0|hn0
 ·have hng:=aa hn0
  clear hn0;have HIS:Hid (∀wz,Calls Tryz.prog 116 #[.agg #[.bool gg.n,.bool gg.sp.n,.int .i64 gg.sp.lo,.int .i64 gg.sp.hi,.bool gg.t,.bool gg.f,.slice ss gg.s.length cp]] wz λe w'=>e=.returned (.bool true)/\Below wz.heap.size wz w'):=λwz=>by have h:=ba gg ss cp wz;rw[hng.out] at h;exact h
  have t0:=TX.1 0 _ rfl;have t1:=TX.1 1 _ rfl;have t2:=TX.1 2 _ rfl;have t3:=TX.1 3 _ rfl;have t4:=TX.1 4 _ rfl;have t5:=TX.1 5 _ rfl;have t6:=TX.1 6 _ rfl;go_wp2_with (go_at_call 116;fail);refine((HIS.out wx).mono ?_);rintro e wy ⟨rfl,hby⟩;clear t0 t1 t2 t3 t4 t5 t6;have TY:=TX.call hby
  have IY:=IX.call hby
  have YY:=YX.call hby
  have OY:=OX.call hby
  have BY:=BX.trans (hby.mono BX.size);have YWY:=YWX.trans (hby.mono YWX.size);have HGY:=aa (IntsIn.call HGI.out hby);clear TX IX YX OX BX YWX HIS HGI;clear TY IY YY OY YWY HGY;go_wp2;refine bodyPost_ret (v:=.tuple #[.slice none 0 0,.bool wr,.bool false]) (by simp[results,Tryz.results59,go_sem]) rfl ⟨?_,BY⟩;rw[HST.out,if_pos hng.out];exact⟨none,0,rfl,EdsOn.nil⟩
 ·have hng:=aa hn0
  clear hn0;have HIS:Hid (∀wz,Calls Tryz.prog 116 #[.agg #[.bool gg.n,.bool gg.sp.n,.int .i64 gg.sp.lo,.int .i64 gg.sp.hi,.bool gg.t,.bool gg.f,.slice ss gg.s.length cp]] wz λe w'=>e=.returned (.bool false)/\Below wz.heap.size wz w'):=λwz=>by have h:=ba gg ss cp wz;rw[hng.out] at h;exact h
  have t0:=TX.1 0 _ rfl;have t1:=TX.1 1 _ rfl;have t2:=TX.1 2 _ rfl;have t3:=TX.1 3 _ rfl;have t4:=TX.1 4 _ rfl;have t5:=TX.1 5 _ rfl;have t6:=TX.1 6 _ rfl;go_wp2_with (go_at_call 116;fail);refine((HIS.out wx).mono ?_);rintro e wy ⟨rfl,hby⟩;clear t0 t1 t2 t3 t4 t5 t6;have TY:=TX.call hby
  have IY:=IX.call hby
  have YY:=YX.call hby
  have OY:=OX.call hby
  have BY:=BX.trans (hby.mono BX.size);have YWY:=YWX.trans (hby.mono YWX.size);have HGY:=aa (IntsIn.call HGI.out hby);clear TX IX YX OX BX YWX HIS HGI;have GP:=GOW.same (w':=wy) (λb _ hlt=>YWY.block b hlt) YWY.size;have GC:=nM (T:=T) (y:=⟨gg,ss,cp⟩) GOW (by omega) (by omega) HGY.out HCP.out.1 HCP.out.2;have hktv:kt < v.l.length:=by have h:=hktx;rw[EPV.out] at h;simpa[aL,roG] using h
  obtain⟨vb,evb,eb1,hvb,zvb⟩:=GOW.vars.form (by omega);have GP2:=(GP.mono (T':=λb=>T b\/w.heap.size<=b) λb hb _=>.inr hb);have GS:=GP2.setV evb hktv GC;have GU:=GP.vars.gu evb (k:=kt) hktv;obtain⟨⟨u0,u1,u2,u3,u4,u5,u6⟩,uz⟩:=GU;have TH:=GP.vars.thaw evb;have f0:=TH (kt * 7);have f1:=TH (kt * 7+1);have f2:=TH (kt * 7+2);have f3:=TH (kt * 7+3);have f4:=TH (kt * 7+4);have f5:=TH (kt * 7+5);have f6:=TH (kt * 7+6);have y1:=YY.1 1 _ rfl;rw[evb] at y1;have i1:=IY.1 1 _ rfl;rw[HKT.out] at i1;have t0:=TY.1 0 _ rfl;have t1:=TY.1 1 _ rfl;have t2:=TY.1 2 _ rfl;have t3:=TY.1 3 _ rfl;have t4:=TY.1 4 _ rfl;have t5:=TY.1 5 _ rfl;have t6:=TY.1 6 _ rfl;have q0:(0:Int)<=(kt:Int):=by omega
  have q1:(kt:Int) < (v.l.length:Int):=by omega
  have HEV:=aa evb;have OS:Cells (bP wy vb kt ⟨gg,ss,cp⟩) w4.heap.size [.int .i64 ((m:Int)+1),.bool false,.slice v.rs v.l.length v.rc,.slice gs L.length gc]:=OY.same (cU (by omega)) (by rw[cN];exact Nat.le_refl _);have BS:Below w.heap.size w (bP wy vb kt ⟨gg,ss,cp⟩):=dd BY (by omega);have HF:Hid (bM (λb=>T b\/w.heap.size<=b) (bP wy vb kt ⟨gg,ss,cp⟩) (.returned (.tuple #[.slice (some ⟨w4.heap.size,0,none⟩) 1 1,.bool wr,.bool false])) (aj i (m:Int) x)):=by
   show bM _ _ _ _;rw[HST.out,if_neg (by rw[hng.out];decide)];refine⟨some ⟨w4.heap.size,0,none⟩,1,rfl,?_⟩;refine ia (S:=(λb=>T b\/w.heap.size<=b)) (v:=⟨v.rs,v.rc,v.l.set kt ⟨gg,ss,cp⟩⟩) (L:=L) (by simp only[List.length_set];exact OS) (.inr (by omega)) GS (λb hb=>hb) (λb hb=>.inr (by omega)) ?_;rw[dA,<-EPV.out,HKT.out]
  clear GP GC GP2 GS TH TY IY YY OY OS BY HGY GOW YWY EPV evb;obtain⟨wv,ewv⟩:∃q,q=bP wy vb kt ⟨gg,ss,cp⟩:=⟨_,rfl⟩;have HF2:=aa (And.intro HF.out BS);rw[<-ewv] at HF2
  go_upto_region 87 with fail
  clear u0 u1 u2 u3 u4 u5 u6 uz f0 f1 f2 f3 f4 f5 f6 t0 t1 t2 t3 t4 t5 t6 y1 i1 HF BS;simp only[bP] at ewv;rw[<-ewv];clear ewv;go_wp2;refine bodyPost_ret (v:=.tuple #[.slice (some ⟨w4.heap.size,0,none⟩) 1 1,.bool wr,.bool false]) (by simp[results,Tryz.results59,go_sem]) rfl HF2.out):p:=h
theorem rP {p:Prop}(h:p:=by
 rw[<-hgw] at h;refine h.mono ?_;rintro e w' ⟨ss,cp,h1,h2,h3⟩;refine⟨ss,cp,h1,?_,h3⟩;rcases h2 with⟨e1,rfl,rfl⟩|⟨rfl,rfl,e1⟩
 ·exact⟨.inl e1,by rw[e1];exact Nat.zero_le _,Nat.zero_le _⟩
 ·have e2:gg.s=x.vars[ka].s:=e1
  rw[e2];exact⟨hga.call h3,GAI.2⟩):p:=h
theorem rr {p:Prop}(h:p:=by
 show _=_;unfold aj;rw[e,if_neg (by rw[HK.out.kx.none];decide),if_neg (by omega),if_neg (by omega),if_neg (by omega),if_neg (by omega),if_neg (by omega),if_neg (by omega),if_neg (show¬i.k=11 by omega)]):p:=h
theorem Ep {T:Nat->Prop}{V F:Int}{s:oA}{c:List Ins}{cap m:Nat}{i:Ins}{x:Pic}{vs:oA}{vc:Nat}{fs:oA}{fc:Nat}{w:World}{w3 w4 w7 w11 wp:World}{v:Ro}{gs:oA}{gc:Nat}{L:List Ro}(hx:PicOn T w x vs fs)(K:SCtx V F c x vc fc i (m:Int))(hk:4<=i.k/\i.k<=10){ka:Nat}{sska:oA}{gcka:Nat}(hkax:ka < x.vars.length)(eka:i.a=(ka:Int)){kb:Nat}{sskb:oA}{gckb:Nat}(hkbx:kb < x.vars.length)(ekb:i.b=(kb:Int))(SP:Hid (SPre T V F s c cap (m:Int) i x vs vc fs fc w wp (w.heap.size+1+1) w3.heap.size w4.heap.size w7.heap.size (w7.heap.size+1) w11.heap.size w3 v gs gc L x.vars[ka] sska gcka x.vars[kb] sskb gckb)):SwT (λe w'=>bM (λb=>T b\/w.heap.size<=b) w' e (aj i (m:Int) x)/\Below w.heap.size w w') m w w3 w4 w7 w11 wp:=by
 have HKAV:=aa eka;have HKBV:=aa ekb;have HKK:=aa hk;clear hk;have HK:=aa K;have HX:=aa hx;have h60:=K.lens.2.1;have n0:(0:Int)<=(m:Int):=K.a0;have n1:(m:Int) < (c.length:Int):=K.a1;have hm:m < c.length:=by omega
 have w61:(m:Int)<=60:=by omega
 clear K hx eka ekb;refine fG rfl λz0 z2 z4 u=> ?_;simp only[j3,j3.loop,List.map];obtain⟨BP,PP,XP,IP,YP,OP,AP,EP,TP,GAI,GBI,GOW,YW,-,EPV0,-,o2,o3,o4,o5,o6⟩:=SP.out;have EPV:=aa EPV0;clear EPV0;have i0:=IP.1 0 _ rfl;have hk1:=HKK.out.1;have hk2:=HKK.out.2;have q19:(i.k==19)=false:=by simp;omega
 have q18:(i.k==18)=false:=by simp;omega
 have q16:(i.k==16)=false:=by simp;omega
 have q15:(i.k==15)=false:=by simp;omega
 have q17:(i.k==17)=false:=by simp;omega
 have q13:(i.k==13)=false:=by simp;omega
 have q12:(i.k==12)=false:=by simp;omega
 have q11:(i.k==11)=false:=by simp;omega
 have q1:(i.k==1)=false:=by simp;omega
 have q14:(i.k==14)=false:=by simp;omega
 have q2:(i.k==2)=false:=by simp;omega
 have q3:(i.k==3)=false:=by simp;omega
 clear hk1 hk2;obtain⟨kt,ekt,hktx⟩:=HK.out.varTo (by have h:=HKK.out;unfold nTo btw;simp;omega);have HKT:=aa ekt;clear ekt;have ega:gAt x i.a=x.vars[ka]:=by rw[HKAV.out,dJ hkax]
 have egb:gAt x i.b=x.vars[kb]:=by rw[HKBV.out,dJ hkbx]
 obtain⟨⟨gg,wr⟩,hgw⟩:∃q,q=cu i.k x.vars[ka] x.vars[kb]:=⟨_,rfl⟩;have HGW:=aa hgw;have HST:Hid (aj i (m:Int) x=if ag gg then([],wr,false) else([⟨(m:Int)+1,aO x i.tgt gg⟩],wr,false)):=by
  have hr:=HKK.out;have e:aN i (m:Int) x=(gg,wr):=by
   unfold aN;rw[if_neg (by omega),if_neg (by omega),if_neg (by omega),if_neg (by omega),if_neg (by omega),if_neg (by omega),ega,egb];exact hgw.symm
  exact rr
 have HDO:Hid (∀wx,Below w.heap.size w wx->Calls pG 115 #[I Y i.k,Ag #[Bb x.vars[ka].n,Bb x.vars[ka].sp.n,I Y x.vars[ka].sp.lo,I Y x.vars[ka].sp.hi,Bb x.vars[ka].t,Bb x.vars[ka].f,U sska x.vars[ka].s.length gcka],Ag #[Bb x.vars[kb].n,Bb x.vars[kb].sp.n,I Y x.vars[kb].sp.lo,I Y x.vars[kb].sp.hi,Bb x.vars[kb].t,Bb x.vars[kb].f,U sskb x.vars[kb].s.length gckb]] wx λe w'=>∃ss cp,e=Rt (Tu #[Ag #[Bb gg.n,Bb gg.sp.n,I Y gg.sp.lo,I Y gg.sp.hi,Bb gg.t,Bb gg.f,U ss gg.s.length cp],Bb wr])/\(IntsIn (λb=>T b/\b < w.heap.size) w' ss gg.s/\gg.s.length<=cp/\cp<=maxLen)/\Below wx.heap.size wx w'):=λwx hb'=>by
  have hr:=HKK.out;have hcka:=HK.out.kx.gv _ (gM hkax);have hgb:IntsAt wx sskb (x.vars[kb]:Gs).s/\(x.vars[kb]:Gs).s.length<=9223372036854775807:=⟨(GBI.1.same (w':=wx) (λb hb hlt=>hb'.block b hlt) hb'.size).at,by have:=GBI.2.1;have:=GBI.2.2;unfold maxLen at *;omega⟩
  have hga:IntsIn (λb=>T b/\b < w.heap.size) wx sska x.vars[ka].s:=(GAI.1.mono (S':=λb=>T b/\b < w.heap.size) λb hb hlt=>⟨hb,hlt⟩).same (λb hb hlt=>hb'.block b hlt) hb'.size;have h:=GO (V:=V) (F:=F) (c:=c) x.vars[ka] sska gcka x.vars[kb] sskb gckb i.k wx hga.at (by have:=GAI.2.1;have:=GAI.2.2;unfold maxLen at *;omega) hgb.1 hgb.2 (HK.out.duo hcka (HK.out.kx.gv _ (gM hkbx))) (by omega)
  exact rP
 clear hgw ega egb;exact pM
theorem Dj {T:Nat->Prop}{V F:Int}{s:oA}{c:List Ins}{cap m:Nat}{i:Ins}{x:Pic}{vs:oA}{vc:Nat}{fs:oA}{fc:Nat}{w:World}{w3 w4 w7 w11 wp:World}{v:Ro}{gs:oA}{gc:Nat}{L:List Ro}(hx:PicOn T w x vs fs)(K:SCtx V F c x vc fc i (m:Int))(hk:4<=i.k/\i.k<=10)(hnB:nB i.k=false){ka:Nat}{sska:oA}{gcka:Nat}(hkax:ka < x.vars.length)(eka:i.a=(ka:Int))(SP:Hid (SPre T V F s c cap (m:Int) i x vs vc fs fc w wp (w.heap.size+1+1) w3.heap.size w4.heap.size w7.heap.size (w7.heap.size+1) w11.heap.size w3 v gs gc L x.vars[ka] sska gcka noneG nO 0)):SwT (λe w'=>bM (λb=>T b\/w.heap.size<=b) w' e (aj i (m:Int) x)/\Below w.heap.size w w') m w w3 w4 w7 w11 wp:=by
 have HKAV:=aa eka;have HKK:=aa hk;have hnBO:=aa hnB;clear hk hnB;have HK:=aa K;have HX:=aa hx;have h60:=K.lens.2.1;have n0:(0:Int)<=(m:Int):=K.a0;have n1:(m:Int) < (c.length:Int):=K.a1;have hm:m < c.length:=by omega
 have w61:(m:Int)<=60:=by omega
 clear K hx eka;refine fG rfl λz0 z2 z4 u=> ?_;simp only[j3,j3.loop,List.map];obtain⟨BP,PP,XP,IP,YP,OP,AP,EP,TP,GAI,GBI,GOW,YW,-,EPV0,-,o2,o3,o4,o5,o6⟩:=SP.out;have EPV:=aa EPV0;clear EPV0;have i0:=IP.1 0 _ rfl;have hk1:=HKK.out.1;have hk2:=HKK.out.2;have q19:(i.k==19)=false:=by simp;omega
 have q18:(i.k==18)=false:=by simp;omega
 have q16:(i.k==16)=false:=by simp;omega
 have q15:(i.k==15)=false:=by simp;omega
 have q17:(i.k==17)=false:=by simp;omega
 have q13:(i.k==13)=false:=by simp;omega
 have q12:(i.k==12)=false:=by simp;omega
 have q11:(i.k==11)=false:=by simp;omega
 have q1:(i.k==1)=false:=by simp;omega
 have q14:(i.k==14)=false:=by simp;omega
 have q2:(i.k==2)=false:=by simp;omega
 have q3:(i.k==3)=false:=by simp;omega
 clear hk1 hk2;obtain⟨kt,ekt,hktx⟩:=HK.out.varTo (by have h:=HKK.out;unfold nTo btw;simp;omega);have HKT:=aa ekt;clear ekt;have ega:gAt x i.a=x.vars[ka]:=by rw[HKAV.out,dJ hkax]
 obtain⟨⟨gg,wr⟩,hgw⟩:∃q,q=cu i.k x.vars[ka] noneG:=⟨_,rfl⟩;have HGW:=aa hgw;have EDO:Hid (∀h,cu i.k x.vars[ka] h=cu i.k x.vars[ka] noneG):=λh=>by
  have hb:=hnBO.out;have hr:=HKK.out;have:i.k=4\/i.k=10:=by unfold nB btw at hb;simp at hb;omega
  rcases this with e|e<;>rw[e]<;>simp[cu]
 have HST:Hid (aj i (m:Int) x=if ag gg then([],wr,false) else([⟨(m:Int)+1,aO x i.tgt gg⟩],wr,false)):=by
  have hr:=HKK.out;have e:aN i (m:Int) x=(gg,wr):=by
   unfold aN;rw[if_neg (by omega),if_neg (by omega),if_neg (by omega),if_neg (by omega),if_neg (by omega),if_neg (by omega),ega,EDO.out];exact hgw.symm
  exact rr
 have HDO:Hid (∀wx,Below w.heap.size w wx->Calls pG 115 #[I Y i.k,Ag #[Bb x.vars[ka].n,Bb x.vars[ka].sp.n,I Y x.vars[ka].sp.lo,I Y x.vars[ka].sp.hi,Bb x.vars[ka].t,Bb x.vars[ka].f,U sska x.vars[ka].s.length gcka],Ag #[Bb false,Bb true,I Y 0,I Y 0,Bb false,Bb false,U nO 0 0]] wx λe w'=>∃ss cp,e=Rt (Tu #[Ag #[Bb gg.n,Bb gg.sp.n,I Y gg.sp.lo,I Y gg.sp.hi,Bb gg.t,Bb gg.f,U ss gg.s.length cp],Bb wr])/\(IntsIn (λb=>T b/\b < w.heap.size) w' ss gg.s/\gg.s.length<=cp/\cp<=maxLen)/\Below wx.heap.size wx w'):=λwx hb'=>by
  have hr:=HKK.out;have hcka:=HK.out.kx.gv _ (gM hkax);have hgb:IntsAt wx nO (noneG:Gs).s/\(noneG:Gs).s.length<=9223372036854775807:=⟨.inl rfl,j1 _⟩;have hga:IntsIn (λb=>T b/\b < w.heap.size) wx sska x.vars[ka].s:=(GAI.1.mono (S':=λb=>T b/\b < w.heap.size) λb hb hlt=>⟨hb,hlt⟩).same (λb hb hlt=>hb'.block b hlt) hb'.size;have h:=GO (V:=V) (F:=F) (c:=c) x.vars[ka] sska gcka noneG nO 0 i.k wx hga.at (by have:=GAI.2.1;have:=GAI.2.2;unfold maxLen at *;omega) hgb.1 hgb.2 (HK.out.duo hcka (rfl)) (by omega)
  exact rP
 clear hgw ega EDO;exact pM
theorem Be {S:Nat->Prop}(V F:Int)(s:oA)(c:List Ins)(cap:Nat)(at_:Int)(i:Ins)(x:Pic)(vs:oA)(vc:Nat)(fs:oA)(fc:Nat)(w:World)(hn:x.none=true):
  Calls pG 59 #[pv V F s c cap,I Y at_,xv x vs vc fs fc] w λe w'=>bM S w' e (aj i at_ x)/\Below w.heap.size w w':=by
 have e:aj i at_ x=([],false,false):=by unfold aj;rw[if_pos hn]
 have exv:xv x vs vc fs fc=Ag #[Bb true,U vs x.vars.length vc,U fs x.flds.length fc]:=by unfold xv;rw[hn]
 rw[e,exv];clear e exv hn;go_enter Tryz.func59,Tryz.ntmps59;go_wp2;refine bodyPost_ret (v:=Tu #[U nO 0 0,Bb false,Bb false]) (by simp[results,Tryz.results59,go_sem]) rfl ⟨⟨nO,0,rfl,EdsOn.nil⟩,by go_grown⟩
theorem Iw {T:Nat->Prop}{V F:Int}{s:oA}{c:List Ins}{cap m:Nat}{i:Ins}{x:Pic}{vs:oA}{vc:Nat}{fs:oA}{fc:Nat}{w:World}(hc:CodeAt w s c)(hx:PicOn T w x vs fs)(K:SCtx V F c x vc fc i (m:Int)):
  Calls pG 59 #[pv V F s c cap,I Y (m:Int),xv x vs vc fs fc] w λe w'=>bM (λb=>T b\/w.heap.size<=b) w' e (aj i (m:Int) x)/\Below w.heap.size w w':=by
 have hk:=(bX K.one).1;unfold btw at hk;simp only[Bool.and_eq_true,decide_eq_true_eq] at hk;by_cases h1:i.k=1
 ·exact fr hc hx K (by rw[h1];rfl) (by rw[h1];rfl) (λ_ _ _ _ _ _ _ _ _ SP=>Hr hx K h1 SP)
 by_cases h2:i.k=2
 ·exact fr hc hx K (by rw[h2];rfl) (by rw[h2];rfl) (λ_ _ _ _ _ _ _ _ _ SP=>Ip hx K h2 SP)
 by_cases h3:i.k=3
 ·exact fr hc hx K (by rw[h3];rfl) (by rw[h3];rfl) (λ_ _ _ _ _ _ _ _ _ SP=>Ht hx K h3 SP)
 by_cases h11:i.k=11
 ·exact fr hc hx K (by rw[h11];rfl) (by rw[h11];rfl) (λ_ _ _ _ _ _ _ _ _ SP=>Fs hx K h11 SP)
 by_cases h12:i.k=12
 ·exact gU hc hx K (by rw[h12];rfl) (by rw[h12];rfl) (λ_ _ _ _ _ _ _ _ _ _ _ _ ha ea SP=>Ga hx K h12 ha ea SP)
 by_cases h13:i.k=13
 ·exact sx hc hx K (by rw[h13];rfl) (by rw[h13];rfl) (λ_ _ _ _ _ _ _ _ _ _ _ _ ha ea _ _ _ hb eb SP=>Ft hx K h13 ha ea hb eb SP)
 by_cases h14:i.k=14
 ·exact fr hc hx K (by rw[h14];rfl) (by rw[h14];rfl) (λ_ _ _ _ _ _ _ _ _ SP=>GE hx K h14 SP)
 by_cases h15:i.k=15
 ·exact gU hc hx K (by rw[h15];rfl) (by rw[h15];rfl) (λ_ _ _ _ _ _ _ _ _ _ _ _ ha ea SP=>FC hx K h15 ha ea SP)
 by_cases h16:i.k=16
 ·exact fr hc hx K (by rw[h16];rfl) (by rw[h16];rfl) (λ_ _ _ _ _ _ _ _ _ SP=>Gq hx K h16 SP)
 by_cases h17:i.k=17
 ·exact gU hc hx K (by rw[h17];rfl) (by rw[h17];rfl) (λ_ _ _ _ _ _ _ _ _ _ _ _ ha ea SP=>Gn hx K h17 ha ea SP)
 by_cases h18:i.k=18
 ·exact gU hc hx K (by rw[h18];rfl) (by rw[h18];rfl) (λ_ _ _ _ _ _ _ _ _ _ _ _ ha ea SP=>EC hx K h18 ha ea SP)
 by_cases h19:i.k=19
 ·exact fr hc hx K (by rw[h19];rfl) (by rw[h19];rfl) (λ_ _ _ _ _ _ _ _ _ SP=>FH hx K h19 SP)
 have hr:4<=i.k/\i.k<=10:=by omega
 have hA:nA i.k=true:=by unfold nA btw;simp;omega
 rcases j0 (nB i.k) with hB|hB
 ·exact sx hc hx K hA hB (λ_ _ _ _ _ _ _ _ _ _ _ _ ha ea _ _ _ hb eb SP=>Ep hx K hr ha ea hb eb SP)
 ·exact gU hc hx K hA hB (λ_ _ _ _ _ _ _ _ _ _ _ _ ha ea SP=>Dj hx K hr hB ha ea SP)
theorem ub (T:Nat->Prop)(V F:Int)(s:oA)(c:List Ins)(cap:Nat)(at_:Int)(x:Pic)(vs:oA)(vc:Nat)(fs:oA)(fc:Nat)(w:World)(hc:CodeAt w s c)(hx:PicOn T w x vs fs)(h0:ah V F c=0)(hck:aF V F c x=0)(a0:0<=at_)(a1:at_ < c.length)(h1:x.vars.length<=vc/\vc<=maxLen)(h2:x.flds.length<=fc/\fc<=maxLen):
  Calls pG 59 #[pv V F s c cap,I Y at_,xv x vs vc fs fc] w λe w'=>bM (λb=>T b\/w.heap.size<=b) w' e (aj (bu c at_) at_ x)/\Below w.heap.size w w':=by
 rcases j0 x.none with hn|hn
 ·exact Be V F s c cap at_ (bu c at_) x vs vc fs fc w hn
 ·obtain⟨m,rfl⟩:=j4 a0
  exact Iw hc hx ⟨h0,cc hck hn,rfl,a0,a1,h1,h2⟩
theorem Fk:wO:=by
 intro V F s c cap w h0;obtain⟨⟨hV1,hV8⟩,⟨hF0,hF3⟩,h60⟩:=bw h0;obtain⟨v,rfl⟩:=j4 (show 0<=V by omega);obtain⟨f,rfl⟩:=j4 hF0;refine(yP v f s c cap w (by omega) (by omega) h60).mono ?_;rintro e w' ⟨⟨vs,vc,fs,fc,h1,h2,h3⟩,hb⟩;exact⟨⟨vs,vc,fs,fc,h1,h2.at,h3⟩,hb⟩
theorem Hm:Al:=λT V F s c cap at_ x vs vc fs fc w hc hx h0 hck a0 a1 h1 h2=>ub T V F s c cap at_ x vs vc fs fc w hc hx h0 hck a0 a1 h1 h2
theorem Hg:An:=λS V F c wide x y vs1 vc1 fs1 fc1 vs2 vc2 fs2 fc2 w hx hy p1 p2 q1 q2 h0 h1 h2=>by
 cases wide with
 |false=>
  have h:=kF false _ (pt h0) x y vs1 vc1 fs1 fc1 vs2 vc2 fs2 fc2 w S hx hy p1 p2 q1 q2 h0 h1 h2;rw[(ir h0 h1 h2).1] at h;exact h
 |true=>
  have h:=kF true _ (Fb h0) x y vs1 vc1 fs1 fc1 vs2 vc2 fs2 fc2 w S hx hy p1 p2 q1 q2 h0 h1 h2;rw[(ir h0 h1 h2).2] at h;exact h
theorem yM (V F:Int)(s:oA)(c:List Ins)(cap:Nat)(w:World)(hc:CodeAt w s c)(h0:ah V F c=0):
  Calls pG 31 #[pv V F s c cap] w λe w'=>wm V F c e w'/\Below w.heap.size w w':=BO Fk Hm Hg V F s c cap w hc h0
def Kg (A:List (Int×Int))(e:Ending)(w':World):Prop:=∃(a:oA) (ac:Nat),e=Rt (U a A.length ac)/\AlsAt w' a A
theorem wH {B:Nat}{W:World}{v:Value}{A:List (Int×Int)}(h:W.ownsRow B 62 2 v A.length (alC A)):∃a cp,v=U a A.length cp:=by
 rcases h.2 with⟨h,h2⟩|⟨g,cp,_,h,_⟩
 ·exact⟨nO,0,by rw[h,h2]⟩
 ·exact⟨_,_,h⟩
theorem vN {B:Nat}{w2 W W4:World}{v v':Value}{A:List (Int×Int)}{k kind:Int}{O:Obj}(hO:W.ownsRow B 62 2 v A.length (alC A))(BR:Below B w2 W)(hB:B<=W.heap.size)(hown:W4.ownsRow B 62 2 v' (A.length+1) (alC A++[I Y k,I Y kind]))(hgrow:(W.alloc O).grownBy W4 v.ownBlock):
  W4.ownsRow B 62 2 v' (bN A k kind true).length (alC (bN A k kind true))/\Below B w2 W4:=by
 have hz:(W.alloc O).heap.size=W.heap.size+1:=zA _ _;have h:W4.ownsRow B 62 2 v' (A++[(k,kind)]).length (alC (A++[(k,kind)])):=by
  rw[<-ww,List.length_append];exact hown
 exact⟨h,(BR.alloc hB O).grown hgrow (by omega) (λq hq=>(hO.lt q hq).1)⟩
theorem rX {p:Prop}(h:p:=by
 intro v' w9 hown hgrow hat;have HN:=aa (vN HO.out BR zB hown hgrow);clear hown hgrow hat S4;go_wp2_with fail;go_meet;obtain⟨a9,c9,e9⟩:=wH HN.out.1;rw[HE.out];exact⟨a9,c9,e9,by show _;rw[<-e9];exact HN.out.1,HN.out.2⟩):p:=h
theorem vE (V F:Int)(s:oA)(c:List Ins)(cap m:Nat)(w:World)(hc:CodeAt w s c)(h0:ah V F c=0)(hs:SolvedAt V F c m):
  Calls pG 23 #[pv V F s c cap] w λe w'=>Kg (aE c (aA V F c m) c.length) e w'/\Below w.heap.size w w':=by
 obtain⟨ti,hi,hz0,hz1,hz2⟩:=info_parts Tryz.info_alarm;have h60:=(bw h0).2.2;have B0:Below w.heap.size w (w.alloc (Cc #[I Y V,I Y F,U s c.length cap] 24)):=by go_grown
 have P0:=PrAt.new w V F s c cap;have HXO:=aa (dC h0 m);have HC:=aa hc;have H0:=aa h0;have HSO:Hid (∀wx,Below w.heap.size w wx->Calls pG 31 #[pv V F s c cap] wx λe w'=>(∃pb pc:Nat,e=Rt (Tu #[U (sO ⟨pb,0,nO⟩) (c.length+1) pc,I Y ((m+1:Nat):Int)])/\XsAt w' (sO ⟨pb,0,nO⟩) (aA V F c m))/\Below wx.heap.size wx w'):=λwx hb=>by
  refine(yM V F s c cap wx (hc.below hb (lR _)) h0).mono ?_;rintro e w' ⟨⟨m',pb,pc,hs',_,rfl,hx'⟩,hb'⟩;obtain rfl:=hs'.one hs;exact⟨⟨pb,pc,rfl,hx'⟩,hb'⟩
 generalize aA V F c m=L at *;clear hc h0 hs;go_enter Tryz.func23,Tryz.ntmps23
 go_upto_region 1 with fail
 generalize w.alloc (Cc #[I Y V,I Y F,U s c.length cap] 24)=w0 at *;obtain⟨⟨p0,p1,p2⟩,pz⟩:=id P0;go_wp2_with (go_at_call 31;fail);refine(HSO.out w0 B0).mono ?_;rintro e w2 ⟨⟨pb,pc,rfl,hX⟩,hb2⟩;have HX:=aa hX;have B2:=B0.trans (hb2.mono B0.size);have P2:=P0.call hb2;clear hX HSO p0 p1 p2 pz P0 B0 hb2;have HB2:=aa B2;clear B2;have O0:w2.ownsRow w2.heap.size 62 2 (U nO (aE c L 0).length 0) (aE c L 0).length (alC (aE c L 0)):=World.ownsRow_nil _ _ _ _;go_wp2;go_loopw [5,6] (λv i wr=>∃(k:Nat) (va:oA) (vcp:Nat),k<=c.length/\i=I Y k/\v=U va (aE c L k).length vcp/\Hid (wr.ownsRow w2.heap.size 62 2 (U va (aE c L k).length vcp) (aE c L k).length (alC (aE c L k)))/\Below w2.heap.size w2 wr) (λ_ i _=>c.length - (intOf i).toNat)
 case atStart=>exact⟨0,nO,0,j1 _,rfl,rfl,O0,bR _ _⟩
 case round=>
  clear O0;obtain⟨k,va,vcp,hk,rfl,rfl,HO,BR⟩:=hrel;have PR:=P2.call BR;obtain⟨⟨p0,p1,p2⟩,pz⟩:=id PR;by_cases hlt:k < c.length;rotate_left
  ·have n1:¬(k:Int) < (c.length:Int):=by omega
   have ek:k=c.length:=by omega
   subst ek;have HA:=aa (kn HO.out);clear HO;go_wp2;go_ret;exact⟨⟨va,vcp,rfl,HA.out⟩,HB2.out.trans (BR.mono HB2.out.size)⟩
  have hxl:k < L.length:=by rw[HXO.out.len];omega
  obtain⟨_,_,els,zpb,vs,vc,fs,fc,⟨q0,q1,q2⟩,hPx,hvx,hfx⟩:=HX.out.below BR (lR _) k hxl;cases els;simp only[Nat.zero_add] at q0 q1 q2;obtain⟨x,ex⟩:∃x,x=L[k]:=⟨_,rfl⟩;have hckx:aF V F c x=0:=by rw[ex];exact HXO.out.ck _ (gM hxl)
  have exa:aV L (k:Int)=x:=by rw[fR hxl,ex]
  rw[<-ex] at q0 q1 q2 hPx hvx hfx;obtain⟨⟨E,f1,f2⟩,er⟩:∃r,r=aj (bu c (k:Int)) (k:Int) x:=⟨_,rfl⟩;have HAN:Hid (aE c L (k+1)=bN (bN (bN (aE c L k) (k:Int) 1 f1) (k:Int) 2 f2) (k:Int) 3 x.none):=by
   show _=_;rw[fB];unfold io;rw[exa,<-er]
  have HST:Hid (∀wx,Below wr.heap.size wr wx->Calls pG 59 #[pv V F s c cap,I Y (k:Int),xv x vs vc fs fc] wx λe w'=>(∃es ec,e=Rt (Tu #[U es E.length ec,Bb f1,Bb f2]))/\Below wx.heap.size wx w'):=λwx hb=>by
   have b:=HB2.out.trans (BR.mono HB2.out.size);have h:=ub (λ_=>True) V F s c cap (k:Int) x vs vc fs fc wx (HC.out.below (b.trans (hb.mono b.size)) (lR _)) (λw2 h2 hz=>(hPx.call hb).same (λb hb=>h2 b trivial hb) hz) H0.out hckx (by omega) (by omega) hvx hfx;rw[<-er] at h;refine h.mono ?_;rintro e w' ⟨⟨es,ec,rfl,-⟩,hb'⟩;exact⟨⟨es,ec,rfl⟩,hb'⟩
  have HKZ:Hid (∀wx,Below wr.heap.size wr wx->(wx.cell? ⟨w.heap.size,0,nO⟩=sO (I Y V)/\wx.cell? ⟨w.heap.size,1,nO⟩=sO (I Y F)/\wx.cell? ⟨w.heap.size,2,nO⟩=sO (U s c.length cap))/\(wx.cell? ⟨pb,k * 3,nO⟩=sO (Bb x.none)/\wx.cell? ⟨pb,k * 3+1,nO⟩=sO (U vs x.vars.length vc)/\wx.cell? ⟨pb,k * 3+2,nO⟩=sO (U fs x.flds.length fc))):=λwx hb=>by
   have q:=λj=>hb.cell (p:=⟨pb,j,nO⟩) (by simp only;exact zpb);exact⟨(PR.call hb).1,(q _).trans q0,(q _).trans q1,(q _).trans q2⟩
  have HNN:Hid (∀wx,Below w2.heap.size w2 wx->wx.cell? ⟨pb,k * 3,nO⟩=sO (Bb x.none)):=λwx hb=>by
   obtain⟨_,_,els,_,vs',vc',fs',fc',⟨h0,_⟩,_⟩:=HX.out.below hb (lR _) k hxl;cases els;rw[Nat.zero_add,<-ex] at h0;exact h0
  have hlA:(aE c L k).length<=200:=by have:=eX (c:=c) (L:=L) (k:=k);omega
  have B34:Below wr.heap.size wr wr.drew:=(bR _ _).drew;have n0:(0:Int)<=(k:Int):=by omega
  have n1:(k:Int) < (c.length:Int):=by omega
  have n2:(k:Int) < ((c.length+1:Nat):Int):=by omega
  have n3:(k:Int) < (c.length:Int)+1:=by omega
  clear er exa hckx hPx hvx hfx q0 q1 q2 ex;obtain⟨A,eA⟩:∃A,A=aE c L k:=⟨_,rfl⟩;rw[<-eA] at HO HAN hlA |-;clear eA
  go_upto_region 6 with fail
  refine aw (S:=(λwx=>(wx.cell? ⟨w.heap.size,0,nO⟩=sO (I Y V)/\wx.cell? ⟨w.heap.size,1,nO⟩=sO (I Y F)/\wx.cell? ⟨w.heap.size,2,nO⟩=sO (U s c.length cap))/\(wx.cell? ⟨pb,k * 3,nO⟩=sO (Bb x.none)/\wx.cell? ⟨pb,k * 3+1,nO⟩=sO (U vs x.vars.length vc)/\wx.cell? ⟨pb,k * 3+2,nO⟩=sO (U fs x.flds.length fc)))) [] (by kernel_rfl) (HKZ.out _ B34) (λhHeld=> ?_);generalize wr.drew=w4 at *;refine vZ 0 ?_ ?_;refine vZ 1 ?_ ?_;refine vZ 2 ?_ ?_;refine vZ 3 ?_ ?_;refine vZ 4 ?_ ?_;refine vZ 5 ?_ ?_;refine am (i:=6) rfl (by kernel_rfl) (λK hK=> ?_);go_simp;go_at_call 59;refine(HST.out w4 B34).mono ?_;rintro e w5 ⟨⟨es,ec,rfl⟩,hb5⟩;have B5:=B34.trans (hb5.mono B34.size);clear hb5;go_wp2_with fail;refine hK.out _ _ (HKZ.out _ B5) (λhHeld=> ?_);clear hK K;refine sm ?_;refine vZ 7 ?_ ?_;refine vZ 8 ?_ ?_;refine vZ 9 ?_ ?_;refine vZ 10 ?_ ?_;refine vZ 11 ?_ ?_;refine vZ 12 ?_ ?_;refine vZ 13 ?_ ?_;refine ap (by kernel_rfl) ?_ _;have HO5:Hid (w5.ownsRow w2.heap.size 62 2 (U va A.length vcp) A.length (alC A)):=bj HO.out (λk hk=>B5.block k (HO.out.lt k hk).2);have BR5:=BR.trans (B5.mono BR.size);clear hHeld HKZ HST B34 B5 BR HO PR p0 p1 p2 pz;have HO:=HO5;have BR:=BR5;clear HO5 BR5
  go_upto_if 33 with fail
  generalize w5=wq at *;clear w5
  go_cut [5] (λt5 wc=>∃(ua:oA) (ucp:Nat),t5=U ua (bN A (k:Int) 1 f1).length ucp/\Hid (wc.ownsRow w2.heap.size 62 2 (U ua (bN A (k:Int) 1 f1).length ucp) (bN A (k:Int) 1 f1).length (alC (bN A (k:Int) 1 f1)))/\Below w2.heap.size w2 wc)
  case first=>
   rcases j0 f1 with e|e
   ·refine wp_cond_split (congrArg j2 e) (λ_=> ?_) (λh=>by cases h)
    have HE:=aa e;clear e;have S4:=HO.out.kept (j5 wq (Cc #[I Y (k:Int),I Y 1] 62) nO) (by cases e:(Value.slice va A.length vcp).ownBlock with|none=>exact .inl rfl|some q=>exact .inr (by simp));have zB:=BR.size;go_wp2_with (at_builtin;refine aT _ rfl _ _ 55 rfl w2.heap.size 62 ti (Ag #[I Y 0,I Y 0]) 2 16 Tryz.underlying55 hi hz0 hz1 hz2 rfl (by decide) _ _ _ rfl S4 (sO ⟨wq.heap.size,0,nO⟩) 1 1 [I Y (k:Int),I Y 1] rfl rfl (λh=>by cases h) ?q12 ?q13 ?q14 ?q15 ?q16 ?_)
    (try case q12=>exact gE wq 62 [I Y (k:Int),I Y 1])
    (try case q13=>first|exact⟨rfl,rfl⟩|(intro u hu;simp at hu;rcases hu with rfl|rfl<;>rfl))
    (try case q14=>first|(unfold maxLen;omega)|omega)
    (try case q15=>omega)
    (try case q16=>first|(rw[zA];omega)|omega)
    exact rX
   ·refine wp_cond_split (congrArg j2 e) (λh=>by cases h) (λ_=> ?_)
    have HE:=aa e;clear e;go_wp2_with fail;go_meet;rw[HE.out];exact⟨_,_,rfl,HO.out,BR⟩
  clear HO BR;obtain⟨va',vcp',rfl,HO',BR'⟩:=hcut;obtain⟨A1,eA1⟩:∃q,q=bN A (k:Int) 1 f1:=⟨_,rfl⟩;rw[<-eA1] at HO' |-;have HA1:=aa eA1;have hlA1:A1.length<=A.length+1:=by rw[eA1];exact fZ
  clear eA1;have HO:=HO';have BR:=BR';clear HO' BR';generalize va'=va at *;generalize vcp'=vcp at *;clear va' vcp'
  go_upto_if 39 with fail
  generalize wc=wq at *;clear wc
  go_cut [5] (λt5 wc=>∃(ua:oA) (ucp:Nat),t5=U ua (bN A1 (k:Int) 2 f2).length ucp/\Hid (wc.ownsRow w2.heap.size 62 2 (U ua (bN A1 (k:Int) 2 f2).length ucp) (bN A1 (k:Int) 2 f2).length (alC (bN A1 (k:Int) 2 f2)))/\Below w2.heap.size w2 wc)
  case first=>
   rcases j0 f2 with e|e
   ·refine wp_cond_split (congrArg j2 e) (λ_=> ?_) (λh=>by cases h)
    have HE:=aa e;clear e;have S4:=HO.out.kept (j5 wq (Cc #[I Y (k:Int),I Y 2] 62) nO) (by cases e:(Value.slice va A1.length vcp).ownBlock with|none=>exact .inl rfl|some q=>exact .inr (by simp));have zB:=BR.size;go_wp2_with (at_builtin;refine aT _ rfl _ _ 55 rfl w2.heap.size 62 ti (Ag #[I Y 0,I Y 0]) 2 16 Tryz.underlying55 hi hz0 hz1 hz2 rfl (by decide) _ _ _ rfl S4 (sO ⟨wq.heap.size,0,nO⟩) 1 1 [I Y (k:Int),I Y 2] rfl rfl (λh=>by cases h) ?q22 ?q23 ?q24 ?q25 ?q26 ?_)
    (try case q22=>exact gE wq 62 [I Y (k:Int),I Y 2])
    (try case q23=>first|exact⟨rfl,rfl⟩|(intro u hu;simp at hu;rcases hu with rfl|rfl<;>rfl))
    (try case q24=>first|(unfold maxLen;omega)|omega)
    (try case q25=>omega)
    (try case q26=>first|(rw[zA];omega)|omega)
    exact rX
   ·refine wp_cond_split (congrArg j2 e) (λh=>by cases h) (λ_=> ?_)
    have HE:=aa e;clear e;go_wp2_with fail;go_meet;rw[HE.out];exact⟨_,_,rfl,HO.out,BR⟩
  clear HO BR;obtain⟨va',vcp',rfl,HO',BR'⟩:=hcut;obtain⟨A2,eA2⟩:∃q,q=bN A1 (k:Int) 2 f2:=⟨_,rfl⟩;rw[<-eA2] at HO' |-;have HA2:=aa eA2;have hlA2:A2.length<=A1.length+1:=by rw[eA2];exact fZ
  clear eA2;have HO:=HO';have BR:=BR';clear HO' BR';generalize va'=va at *;generalize vcp'=vcp at *;clear va' vcp';have q0:=HNN.out wc BR
  go_upto_if 49 with fail
  generalize wc=wq at *;clear wc;have HFN:Hid (aE c L (k+1)=bN A2 (k:Int) 3 x.none):=by show _=_;rw[HAN.out,HA2.out,HA1.out]
  clear HAN HA1 HA2 HNN q0;rcases j0 x.none with e|e
  ·refine wp_cond_split (congrArg j2 e) (λ_=> ?_) (λh=>by cases h)
   rw[e] at HFN;clear e;have S4:=HO.out.kept (j5 wq (Cc #[I Y (k:Int),I Y 3] 62) nO) (by cases e:(Value.slice va A2.length vcp).ownBlock with|none=>exact .inl rfl|some q=>exact .inr (by simp));have zB:=BR.size;go_wp2_with (at_builtin;refine aT _ rfl _ _ 55 rfl w2.heap.size 62 ti (Ag #[I Y 0,I Y 0]) 2 16 Tryz.underlying55 hi hz0 hz1 hz2 rfl (by decide) _ _ _ rfl S4 (sO ⟨wq.heap.size,0,nO⟩) 1 1 [I Y (k:Int),I Y 3] rfl rfl (λh=>by cases h) ?q32 ?q33 ?q34 ?q35 ?q36 ?_)
   (try case q32=>exact gE wq 62 [I Y (k:Int),I Y 3])
   (try case q33=>first|exact⟨rfl,rfl⟩|(intro u hu;simp at hu;rcases hu with rfl|rfl<;>rfl))
   (try case q34=>first|(unfold maxLen;omega)|omega)
   (try case q35=>omega)
   (try case q36=>first|(rw[zA];omega)|omega)
   intro v' w9 hown hgrow hat;have HN:=aa (vN HO.out BR zB hown hgrow);clear hown hgrow hat S4;obtain⟨a9,c9,e9⟩:=wH HN.out.1;subst e9;rw[<-HFN.out] at HN |-;clear HFN;go_wp2;go_roundw
   case rel=>exact⟨k+1,a9,c9,by omega,by go_num,rfl,HN.out.1,HN.out.2⟩
   case measure=>simp[intOf];omega
  ·refine wp_cond_split (congrArg j2 e) (λh=>by cases h) (λ_=> ?_)
   rw[e] at HFN;clear e;have HFM:Hid (aE c L (k+1)=A2):=HFN.out;clear HFN;rw[<-HFM.out] at HO |-;clear HFM;go_wp2;go_roundw
   case rel=>exact⟨k+1,va,vcp,by omega,by go_num,rfl,HO.out,BR⟩
   case measure=>simp[intOf];omega
def k8 (s:ByteArray)(e:Ending):Prop:=(4000 < s.size/\e=Rt (Tu #[.string ⟨#[]⟩,I Y 2]))\/(s.size<=4000/\(an s).2.2≠0/\e=Rt (Tu #[.string (tQ (an s).2.1),I Y 0]))\/(s.size<=4000/\(an s).2.2=0/\ah (an s).1.1 (an s).1.2.1 (an s).1.2.2=0/\∃m,SolvedAt (an s).1.1 (an s).1.2.1 (an s).1.2.2 m/\e=Rt (Tu #[.string (b9 (aE (an s).1.2.2 (aA (an s).1.1 (an s).1.2.1 (an s).1.2.2 m) (an s).1.2.2.length)),I Y 0]))
theorem nF {s:ByteArray}(hs:s.size<=4000)(h:(an s).2.2=0):ah (an s).1.1 (an s).1.2.1 (an s).1.2.2=0:=by
 unfold an at h |-;rw[if_neg (by omega)] at h |-;split at h
 ·cases h
 ·rename_i V F c _
  by_cases hk:ah V F c=0
  ·simp only[hk,if_true]
  ·simp only[hk,if_false] at h
theorem pC (s:ByteArray)(w:World)(hl:gJ (an s).2.1)(ht:Tab w)(hm:Cap w)(hE:ErrS w):
  Calls pG 25 #[.string s] w λe w'=>k8 s e/\Below w.heap.size w w':=by
 by_cases hs:4000 < s.size
 ·have HR:Hid (k8 s (Rt (Tu #[.string ⟨#[]⟩,I Y 2]))):=.inl ⟨hs,rfl⟩
  have n1:(4000:Int) < (s.size:Int):=by omega
  clear hs;go_enter Tryz.func25,Tryz.ntmps25;go_wp2;refine bodyPost_ret (v:=Tu #[.string ⟨#[]⟩,I Y 2]) (by simp[results,Tryz.results25,go_sem]) rfl ?_;exact⟨HR.out,bR _ _⟩
 have n1:¬(4000:Int) < (s.size:Int):=by omega
 have HP:=aa (CV s w ht hm hE);have HRE:Hid ((an s).2.2≠0->k8 s (Rt (Tu #[.string (tQ (an s).2.1),I Y 0]))):=λh=>.inr (.inl ⟨by omega,h,rfl⟩);have HCK:Hid ((an s).2.2=0->ah (an s).1.1 (an s).1.2.1 (an s).1.2.2=0):=nF (by omega);have HRO:Hid ((an s).2.2=0->∀m,SolvedAt (an s).1.1 (an s).1.2.1 (an s).1.2.2 m->k8 s (Rt (Tu #[.string (b9 (aE (an s).1.2.2 (aA (an s).1.1 (an s).1.2.1 (an s).1.2.2 m) (an s).1.2.2.length)),I Y 0]))):=λh m hm=>.inr (.inr ⟨by omega,h,nF (by omega) h,m,hm,rfl⟩);clear hs;generalize k8 s=RA at *;generalize (an s).1.1=V at *;generalize (an s).1.2.1=F at *;generalize (an s).1.2.2=c at *;generalize (an s).2.1=ln at *;generalize (an s).2.2=er at *;go_enter Tryz.func25,Tryz.ntmps25;go_wp2_with (go_at_call 60;fail);refine HP.out.mono ?_;rintro e w1 ⟨v,rfl,hown,hb1⟩;obtain⟨sa,sc,rfl,hc1⟩:=c8 hown;clear HP hown;have hba:Below w1.heap.size w1 (w1.alloc (Cc #[I Y V,I Y F,U sa c.length sc] 24)):=by go_grown
 have X2:Cells (w1.alloc (Cc #[I Y V,I Y F,U sa c.length sc] 24)) w1.heap.size [I Y V,I Y F,U sa c.length sc]:=Cells.new w1 _ [_,_,_];have B2:=hb1.trans (hba.mono hb1.size);have C2:=hc1.call hba;clear hc1 hba
 go_upto_region 4 with fail
 generalize w1.alloc (Cc #[I Y V,I Y F,U sa c.length sc] 24)=w2 at *;by_cases he:er=0;rotate_left
 ·have f1:(er !=0)=true:=by simpa using he
  have HR:=aa (HRE.out he);clear he HRE HRO HCK;go_wp2_with (go_at_call 61;fail);refine(tG ln w2 hl (ht.below B2)).mono ?_;rintro e w3 ⟨rfl,hb3⟩;have B3:=B2.trans (hb3.mono B2.size);go_wp2;refine bodyPost_ret (v:=Tu #[.string (tQ ln),I Y 0]) (by simp[results,Tryz.results25,go_sem]) rfl ?_;exact⟨HR.out,B3⟩
 have h0:=HCK.out he;have HR:=aa (HRO.out he);subst he;clear HRE HRO HCK;have x0:=X2.1 0 _ rfl;have x1:=X2.1 1 _ rfl;have x2:=X2.1 2 _ rfl;have HAL:=aa (kL V F sa c sc w2 C2);have h60:=(bw h0).2.2;go_wp2_with (go_at_call 20;fail);refine HAL.out.mono ?_;rintro e w3 ⟨hans,hb3⟩;clear HAL x0 x1 x2 X2 C2;have B3:=B2.trans (hb3.mono B2.size);clear B2 hb3;rcases hans with⟨hx,-⟩|⟨-,m,a,ac,hsv,rfl,hO⟩
 ·exact absurd h0 hx
 have HRR:=aa (HR.out m hsv);have HFI:Hid (∀q∈aE c (aA V F c m) c.length,gJ q.1):=λq hq=>by have:=km hq;exact⟨by omega,by omega⟩
 have HAS:=aa (kn hO);have hll:(aE c (aA V F c m) c.length).length<=180:=by have:=eX (c:=c) (L:=aA V F c m) (k:=c.length);omega
 clear hsv hO HR h0;generalize aE c (aA V F c m) c.length=A at *;have HLE:Hid (∀k,k<=A.length->(b9 (A.take k)).size<=40 * k):=λk hk=>kf HFI.out hk;have HTB:=aa (ht.below B3);clear ht hm hE;have hb4:Below w3.heap.size w3 (w3.alloc (Cc #[Pp nO,U nO 0 0] 122)):=by go_grown
 have F4:Lib.IsBuilder 122 5 w3.heap.size w3.heap.size (Lib.strCells (b9 (A.take 0))) (w3.alloc (Cc #[Pp nO,U nO 0 0] 122)):=.inl ⟨lR _,_,(MapKept.heap_alloc w3 _).1,⟨rfl,.inl ⟨rfl,rfl⟩⟩,(by intro h;cases h)⟩
 go_upto_region 8 with fail
 generalize w3.alloc (Cc #[Pp nO,U nO 0 0] 122)=w4 at *;go_wp2;go_loopw [32] (λi wr=>∃k:Nat,k<=A.length/\i=I Y k/\Hid (Lib.IsBuilder 122 5 w3.heap.size w3.heap.size (Lib.strCells (b9 (A.take k))) wr)/\Below w3.heap.size w3 wr) (λi _=>A.length - (intOf i).toNat)
 case atStart=>exact⟨0,j1 _,rfl,F4,hb4⟩
 case round=>
  clear F4 hb4;obtain⟨k,hk,rfl,HB,BR⟩:=hrel;have s1:=BR.size;by_cases hlt:k < A.length;rotate_left
  ·have n2:¬(k:Int) < (A.length:Int):=by omega
   have ek:A.take k=A:=j6 (by omega);have hS:Calls pG 64 #[Pp (sO ⟨w3.heap.size,0,nO⟩)] wr λe w'=>e=Rt (.string (b9 A))/\Below w3.heap.size wr w':=by
    have h:=HB.out;rw[ek] at h;exact Tryz.Builder_String_any w3.heap.size w3.heap.size _ wr h s1
   have HS:=aa hS;clear hS ek HB;go_wp2_with (go_at_call 64;fail);refine HS.out.mono ?_;rintro e w7 ⟨rfl,hb7⟩;go_wp2;refine bodyPost_ret (v:=Tu #[.string (b9 A),I Y 0]) (by simp[results,Tryz.results25,go_sem]) rfl ?_;exact⟨HRR.out,B3.trans ((BR.trans hb7).mono B3.size)⟩
  have n0:(0:Int)<=(k:Int):=by omega
  have n2:(k:Int) < (A.length:Int):=by omega
  obtain⟨b,rfl,hz,c0,c1⟩:=HAS.out.below BR k hlt;have hfa:=HFI.out _ (gM hlt);have HNX:=aa (ki hlt);have hsz:(Lib.strCells (b9 (A.take k))).length+(iu A[k]).size<=140737488355328:=by
   have h1:=HLE.out k hk;have h2:=oN hfa;rw[Lib.strCells_length];omega
  obtain⟨⟨a1,d1⟩,ea⟩:∃q,q=A[k]:=⟨_,rfl⟩;rw[<-ea] at c0 c1 hfa HNX hsz;clear ea HAS;have hba:Below wr.heap.size wr (wr.alloc (Cc #[I Y a1,I Y d1] 62)):=by go_grown
  have X5:Cells (wr.alloc (Cc #[I Y a1,I Y d1] 62)) wr.heap.size [I Y a1,I Y d1]:=Cells.new wr _ [_,_];have B5:=BR.trans (hba.mono BR.size);have HB5:Hid (Lib.IsBuilder 122 5 w3.heap.size w3.heap.size (Lib.strCells (b9 (A.take k))) (wr.alloc (Cc #[I Y a1,I Y d1] 62))):=HB.out.imp (λh=>gC h hba) (λh=>gC h hba);clear HB hba BR
  go_upto_region 11 with fail
  generalize wr.alloc (Cc #[I Y a1,I Y d1] 62)=w5 at *;clear c0 c1;have x0:=X5.1 0 _ rfl;have x1:=X5.1 1 _ rfl;go_wp2_with (go_at_call 63;fail);refine(tw a1 d1 w5 hfa (HTB.out.below B5)).mono ?_;rintro e w6 ⟨rfl,hb6⟩;have HB6:Hid (Lib.IsBuilder 122 5 w3.heap.size w3.heap.size (Lib.strCells (b9 (A.take k))) w6):=HB5.out.imp (λh=>gC h hb6) (λh=>gC h hb6);have B6:=B5.trans (hb6.mono B5.size);clear HB5 hb6 X5 x0 x1 B5;have HWS:=aa (rQ w3.heap.size w3.heap.size _ (iu (a1,d1)) w6 HB6.out hsz B6.size);clear HB6 hsz;generalize iu (a1,d1)=ab at *;go_wp2_with (go_at_call 62;fail);refine HWS.out.mono ?_;rintro e w7 ⟨rfl,ha7,hb7⟩;have HB7:Hid (Lib.IsBuilder 122 5 w3.heap.size w3.heap.size (Lib.strCells (b9 (A.take (k+1)))) w7):=by
   show Lib.IsBuilder _ _ _ _ _ _;rw[HNX.out,pL];exact .inr ha7
  clear ha7 HWS;go_wp2;go_roundw
  case rel=>exact⟨k+1,by omega,by go_num,HB7.out,B6.trans hb7⟩
  case measure=>simp[intOf];omega
theorem mG {A:List (Int×Int)}{k kind:Int}{b:Bool}{a:Int×Int}:a∈bN A k kind b↔a∈A\/(b=true/\a=(k,kind)):=by
 unfold bN;cases b<;>simp
theorem alarmsTo_in {c:List Ins}{L:List Pic}{k d:Int}:∀{n:Nat},(k,d)∈aE c L n↔(0<=k/\k < n)/\((d=1/\(aj (bu c k) k (aV L k)).2.1=true)\/(d=2/\(aj (bu c k) k (aV L k)).2.2=true)\/(d=3/\(aV L k).none=true))
 |0=>by simp[aE];omega
 |n+1=>by
  rw[fB];unfold io;rw[mG,mG,mG,alarmsTo_in (n:=n)];simp only[Prod.mk.injEq];constructor
  ·rintro (((⟨⟨h1,h2⟩,h3⟩|⟨hb,rfl,rfl⟩)|⟨hb,rfl,rfl⟩)|⟨hb,rfl,rfl⟩)
   ·exact⟨⟨h1,by omega⟩,h3⟩
   ·exact⟨⟨by omega,by omega⟩,.inl ⟨rfl,hb⟩⟩
   ·exact⟨⟨by omega,by omega⟩,.inr (.inl ⟨rfl,hb⟩)⟩
   ·exact⟨⟨by omega,by omega⟩,.inr (.inr ⟨rfl,hb⟩)⟩
  ·rintro ⟨⟨h1,h2⟩,h3⟩
   by_cases e:k=n
   ·subst e
    rcases h3 with⟨rfl,h⟩|⟨rfl,h⟩|⟨rfl,h⟩
    ·exact .inl (.inl (.inr ⟨h,rfl,rfl⟩))
    ·exact .inl (.inr ⟨h,rfl,rfl⟩)
    ·exact .inr ⟨h,rfl,rfl⟩
   ·exact .inl (.inl (.inl ⟨⟨h1,by omega⟩,h3⟩))
def addC:List Ins:=[⟨5,0,0,0,0,0⟩,⟨18,0,0,0,0,0⟩]
def expC:List Ins:=[⟨17,0,0,0,0,0⟩]
theorem BE:SolvedAt 1 0 addC 0:=⟨λk hk=>absurd hk (by omega),by decide+kernel⟩
theorem Cw:SolvedAt 1 0 expC 0:=⟨λk hk=>absurd hk (by omega),by decide+kernel⟩
theorem CE:aE addC (aA 1 0 addC 0) addC.length=[(0,1),(1,3)]:=by decide+kernel
theorem BV:aE expC (aA 1 0 expC 0) expC.length=[(0,2)]:=by decide+kernel
theorem DH:aE smallC (aA 1 0 smallC 1) smallC.length=[]:=by decide+kernel
theorem add_ck:ah 1 0 addC=0/\ah 1 0 expC=0:=by decide+kernel
def Ck:ByteArray:=⟨#[118,97,114,115,32,49,32,102,105,101,108,100,115,32,48,10,101,120,112,101,99,116,32,48,10]⟩
theorem nz:an Ck=((1,0,expC),0,0):=by kernel_rfl
theorem Ew:b9 [(0,2)]=⟨#[48,32,102,97,105,108,101,100,10]⟩:=by decide+kernel
theorem Fv (b:Nat)(w:World)(hc:CodeAt w (sO ⟨b,0,nO⟩) addC):Calls pG 20 #[pv 1 0 (sO ⟨b,0,nO⟩) addC 2] w λe w'=>(∃q ac,e=Rt (Tu #[U (sO ⟨q,0,nO⟩) 2 ac,I Y 0])/\q < w'.heap.size/\w'.cell? ⟨q,0,nO⟩=sO (I Y 0)/\w'.cell? ⟨q,1,nO⟩=sO (I Y 1)/\w'.cell? ⟨q,2,nO⟩=sO (I Y 1)/\w'.cell? ⟨q,3,nO⟩=sO (I Y 3))/\Below w.heap.size w w':=by
 refine(kL 1 0 (sO ⟨b,0,nO⟩) addC 2 w hc).mono ?_;rintro e w' ⟨h,hb⟩;refine⟨?_,hb⟩;rcases h with⟨h,_⟩|⟨_,m,a,ac,hs,rfl,hO⟩
 ·exact absurd add_ck.1 h
 ·obtain rfl:=hs.one BE
  rw[CE] at hO |-;have h:=kn (A:=[(0,1),(1,3)]) hO;obtain⟨q,rfl,hz,c0,c1⟩:=h 0 (by simp);obtain⟨q2,e2,_,c2,c3⟩:=h 1 (by simp);cases e2;exact⟨q,ac,rfl,hz,c0,c1,c2,c3⟩
theorem DD (b:Nat)(w:World)(hc:CodeAt w (sO ⟨b,0,nO⟩) smallC):Calls pG 21 #[pv 1 0 (sO ⟨b,0,nO⟩) smallC 2] w λe w'=>e=Rt (Tu #[Bb true,I Y 0])/\Below w.heap.size w w':=by
 refine(EI 1 0 (sO ⟨b,0,nO⟩) smallC 2 w hc).mono ?_;rintro e w' ⟨h,hb⟩;refine⟨?_,hb⟩;rcases h with⟨h,_⟩|⟨_,m,hs,rfl⟩
 ·exact absurd Ct h
 ·obtain rfl:=hs.one wD
  rw[DH];rfl
theorem Gb (w:World)(ht:Tab w)(hm:Cap w)(hE:ErrS w):Calls pG 25 #[.string Ck] w λe w'=>e=Rt (Tu #[.string ⟨#[48,32,102,97,105,108,101,100,10]⟩,I Y 0])/\Below w.heap.size w w':=by
 refine(pC Ck w (by rw[nz];exact⟨by decide,by decide⟩) ht hm hE).mono ?_;rintro e w' ⟨h,hb⟩;refine⟨?_,hb⟩;unfold k8 at h;rw[nz] at h;rcases h with⟨h,_⟩|⟨_,h,_⟩|⟨_,_,_,m,hs,rfl⟩
 ·exact absurd h (by decide+kernel)
 ·exact absurd rfl h
 ·obtain rfl:=hs.one Cw
  simp only;rw[BV,Ew]
theorem ij (w:World)(ht:Tab w)(hm:Cap w)(hE:ErrS w):Calls pG 24 #[] w λe w'=>e=Rt (Bb true)/\Below w.heap.size w w':=by
 have B2:Below w.heap.size w ((w.alloc (Cc #[I Y 5,I Y 0,I Y 0,I Y 0,I Y 0,I Y 0,I Y 18,I Y 0,I Y 0,I Y 0,I Y 0,I Y 0] 100)).alloc (Cc #[I Y 1,I Y 0,U (sO ⟨w.heap.size,0,nO⟩) 2 2] 24)):=by go_grown
 have P2:Cells ((w.alloc (Cc #[I Y 5,I Y 0,I Y 0,I Y 0,I Y 0,I Y 0,I Y 18,I Y 0,I Y 0,I Y 0,I Y 0,I Y 0] 100)).alloc (Cc #[I Y 1,I Y 0,U (sO ⟨w.heap.size,0,nO⟩) 2 2] 24)) (w.heap.size+1) [I Y 1,I Y 0,U (sO ⟨w.heap.size,0,nO⟩) 2 2]:=by
  have h:=Cells.new (w.alloc (Cc #[I Y 5,I Y 0,I Y 0,I Y 0,I Y 0,I Y 0,I Y 18,I Y 0,I Y 0,I Y 0,I Y 0,I Y 0] 100)) 24 [I Y 1,I Y 0,U (sO ⟨w.heap.size,0,nO⟩) 2 2];rw[zA] at h;exact h
 have C2:CodeAt ((w.alloc (Cc #[I Y 5,I Y 0,I Y 0,I Y 0,I Y 0,I Y 0,I Y 18,I Y 0,I Y 0,I Y 0,I Y 0,I Y 0] 100)).alloc (Cc #[I Y 1,I Y 0,U (sO ⟨w.heap.size,0,nO⟩) 2 2] 24)) (sO ⟨w.heap.size,0,nO⟩) addC:=by
  have h:Cells ((w.alloc (Cc #[I Y 5,I Y 0,I Y 0,I Y 0,I Y 0,I Y 0,I Y 18,I Y 0,I Y 0,I Y 0,I Y 0,I Y 0] 100)).alloc (Cc #[I Y 1,I Y 0,U (sO ⟨w.heap.size,0,nO⟩) 2 2] 24)) w.heap.size [I Y 5,I Y 0,I Y 0,I Y 0,I Y 0,I Y 0,I Y 18,I Y 0,I Y 0,I Y 0,I Y 0,I Y 0]:=(Cells.new w 100 [I Y 5,I Y 0,I Y 0,I Y 0,I Y 0,I Y 0,I Y 18,I Y 0,I Y 0,I Y 0,I Y 0,I Y 0]).call (by go_grown);refine .inr ⟨_,_,rfl,h.2.1,λk hk=> ?_⟩
  match k,hk with
  |0,_=>exact⟨h.1 0 _ rfl,h.1 1 _ rfl,h.1 2 _ rfl,h.1 3 _ rfl,h.1 4 _ rfl,h.1 5 _ rfl⟩
  |1,_=>exact⟨h.1 6 _ rfl,h.1 7 _ rfl,h.1 8 _ rfl,h.1 9 _ rfl,h.1 10 _ rfl,h.1 11 _ rfl⟩
  |k+2,h=>exact absurd h (by simp[addC])
 have HRP:Hid (∀wx,Below w.heap.size w wx->Calls pG 25 #[.string ⟨#[118,97,114,115,32,49,32,102,105,101,108,100,115,32,48,10,101,120,112,101,99,116,32,48,10]⟩] wx λe w'=>e=Rt (Tu #[.string ⟨#[48,32,102,97,105,108,101,100,10]⟩,I Y 0])/\Below wx.heap.size wx w'):=λwx hb=>Gb wx (ht.below hb) (hm.below hb) (hE.below hb);clear ht hm hE;go_enter Tryz.func24,Tryz.ntmps24
 go_upto_region 2 with fail
 generalize ((w.alloc (Cc #[I Y 5,I Y 0,I Y 0,I Y 0,I Y 0,I Y 0,I Y 18,I Y 0,I Y 0,I Y 0,I Y 0,I Y 0] 100)).alloc (Cc #[I Y 1,I Y 0,U (sO ⟨w.heap.size,0,nO⟩) 2 2] 24))=w2 at *;have p0:=P2.1 0 _ rfl;have p1:=P2.1 1 _ rfl;have p2:=P2.1 2 _ rfl;go_wp2_with (go_at_call 20;fail);refine(Fv _ _ C2).mono ?_;rintro e w3 ⟨⟨q,ac,rfl,hz,c0,c1,c2,c3⟩,hb3⟩;have B3:=B2.trans (hb3.mono B2.size);clear p0 p1 p2 P2 C2 B2 hb3;go_wp2_with (go_at_call 39;fail);refine(CU _).mono ?_;rintro e w4 ⟨b4,rfl,C4,hb4⟩;go_wp2_with (go_at_call 21;fail);refine(DD _ _ C4).mono ?_;rintro e w5 ⟨rfl,hb5⟩;have b35:=hb4.trans (hb5.mono hb4.size);have B5:=B3.trans (b35.mono B3.size);go_wp2_with (go_at_call 25;fail);refine(HRP.out w5 B5).mono ?_;rintro e w6 ⟨rfl,hb6⟩;have b36:=b35.trans (hb6.mono b35.size);have B6:=B3.trans (b36.mono B3.size);have d0:w6.cell? ⟨q,0,nO⟩=sO (I Y 0):=by rw[b36.cell (by simp only;exact hz)];exact c0
 have d1:w6.cell? ⟨q,1,nO⟩=sO (I Y 1):=by rw[b36.cell (by simp only;exact hz)];exact c1
 have d2:w6.cell? ⟨q,2,nO⟩=sO (I Y 1):=by rw[b36.cell (by simp only;exact hz)];exact c2
 have d3:w6.cell? ⟨q,3,nO⟩=sO (I Y 3):=by rw[b36.cell (by simp only;exact hz)];exact c3
 clear c0 c1 c2 c3 HRP C4 hb4 hb5 hb6 b35 b36 B5 B3;go_wp2;refine bodyPost_ret (v:=Bb true) (by kernel_rfl) rfl ⟨rfl,B6⟩
end
section
open Go.RowKit
theorem n8:∀{l:List (List UInt8)} {k e:Nat},dD k l=.error e->e<=k+l.length
 |[],k,e,h=>by simp[dD] at h;omega
 |[x],k,e,h=>by
  unfold dD at h;split at h
  ·cases h
  ·cases h;simp
 |x::y::r,k,e,h=>by
  unfold dD at h;split at h
  ·cases h;simp
  ·split at h
   ·rename_i e' h'
    cases h;have:=n8 h';simp only[j7] at this |-;omega
   ·cases h
theorem vQ {s:List UInt8}{e:Nat}(h:du s=.error e):e<=s.length+4:=by
 have hl:=g9 10 s;unfold du at h;split at h
 ·rename_i x y r hc
  rw[hc] at hl;split at h
  ·cases h;omega
  ·split at h
   ·rename_i e' h'
    cases h;have:=n8 h';simp only[j7] at this hl;omega
   ·cases h
 ·cases h;omega
theorem oe (s:ByteArray):gJ (an s).2.1:=by
 unfold an;split
 ·exact⟨by decide,by decide⟩
 ·rename_i hs
  split
  ·rename_i k hk
   have h1:=vQ hk;have h2:s.data.toList.length=s.size:=(i6 s _ rfl).symm;exact⟨by simp only;omega,by simp only;omega⟩
  ·split
   ·exact⟨by show (-9223372036854775808:Int)<=0;decide,by show (0:Int)<=9223372036854775807;decide⟩
   ·exact⟨by show (-9223372036854775808:Int)<=0;decide,by show (0:Int)<=9223372036854775807;decide⟩
end
section
open Go.RowKit
attribute [local go_sem ↓] Go.wp_at_zero Go.wp_at_succ
theorem Dz {V F:Int}{c:List Ins}(h0:ah V F c=0):∃m,SolvedAt V F c m:=by
 refine Classical.byContradiction λhno=> ?_;have all:∀m k,k < m->(cX c ((k+1:Nat):Int) (aA V F c k)).2=true:=by
  intro m
  induction m with
  |zero=>exact λk hk=>absurd hk (by omega)
  |succ m ih=>
   intro k hk;by_cases e:k=m
   ·subst e
    refine Classical.byContradiction λhf=>hno ⟨k,ih,?_⟩;simpa using hf
   ·exact ih k (by omega)
 have:=gW h0 (m:=200000000000001) (all _);omega
theorem uR {c:List Ins}{L:List Pic}{n:Nat}{a:Int×Int}(h:a∈aE c L n):a.2=1\/a.2=2\/a.2=3:=by
 obtain⟨k,d⟩:=a;rcases (alarmsTo_in.1 h).2 with⟨h,_⟩|⟨h,_⟩|⟨h,_⟩
 ·exact .inl h
 ·exact .inr (.inl h)
 ·exact .inr (.inr h)
theorem mi {p:Prop}(h:p:=by
 clear HNX HX;go_wp2_with (go_at_call 27;fail);refine(kS a1 wr hf1).mono ?_;rintro e w9 ⟨rfl,hb9⟩;have BN:=BR.trans (hb9.mono BR.size);clear BR hb9 c1 e1;go_wp2;go_roundw
 case rel=>exact⟨k+1,_,by omega,by go_num,rfl,HN.out,BN⟩
 case measure=>simp[intOf];omega):p:=h
theorem ph (s:ByteArray)(w:World)(ht:Tab w)(hm:Cap w)(hE:ErrS w):
  Calls pG 7 #[.string s] w λe w'=>e=Rt (Bb true)/\Below w.heap.size w w':=by
 have HTB:=aa (λwx (hb:Below w.heap.size w wx)=>ht.below hb);have HMB:=aa (λwx (hb:Below w.heap.size w wx)=>hm.below hb);have HEB:=aa (λwx (hb:Below w.heap.size w wx)=>hE.below hb);have HRP:=aa (pC s w (oe s) ht hm hE);have HPO:=aa (λwx=>yC s wx);have hfl:=oe s;have hsz:=lR s.size;clear ht hm hE;by_cases hs:4000 < s.size
 ·have HR1:Hid (Calls pG 25 #[.string s] w λe w'=>e=Rt (Tu #[.string ⟨#[]⟩,I Y 2])/\Below w.heap.size w w'):=by
   refine HRP.out.mono ?_;rintro e w' ⟨⟨_,rfl⟩|⟨h,_⟩|⟨h,_⟩,hb'⟩
   ·exact⟨rfl,hb'⟩
   ·omega
   ·omega
  have n1:(4000:Int) < (s.size:Int):=by omega
  clear HRP hs hsz hfl;unfold vw at HPO;generalize (an s).1.1=V at *;generalize (an s).1.2.1=F at *;generalize (an s).1.2.2=c at *;generalize (an s).2.1=ln at *;generalize (an s).2.2=er at *;go_enter Tryz.func7,Tryz.ntmps7;go_wp2_with (go_at_call 25;fail);refine HR1.out.mono ?_;rintro e w1 ⟨rfl,hb1⟩;clear HR1;go_wp2_with (go_at_call 26;fail);refine(HPO.out w1).mono ?_;rintro e w2 ⟨⟨v2,rfl,hown⟩,hb2⟩;obtain⟨sa,sc,rfl,-⟩:=c8 hown;have hb3:Below w2.heap.size w2 (w2.alloc (Cc #[I Y V,I Y F,U sa c.length sc] 24)):=by go_grown
  have B2:=hb1.trans (hb2.mono hb1.size);have B3:=B2.trans (hb3.mono B2.size);clear hown HPO hb1 hb2 hb3 B2
  go_upto_region 3 with fail
  generalize w2.alloc (Cc #[I Y V,I Y F,U sa c.length sc] 24)=w3 at *;go_wp2_with (go_at_call 24;fail);refine(ij w3 (HTB.out w3 B3) (HMB.out w3 B3) (HEB.out w3 B3)).mono ?_;rintro e w4 ⟨rfl,hb4⟩;have B4:=B3.trans (hb4.mono B3.size);go_wp2;go_ret;exact⟨rfl,B4⟩
 have n1:¬(4000:Int) < (s.size:Int):=by omega
 have HCK:Hid ((an s).2.2=0->ah (an s).1.1 (an s).1.2.1 (an s).1.2.2=0):=nF (by omega);unfold vw at HPO;by_cases he:(an s).2.2=0;rotate_left
 ·have HR1:Hid (Calls pG 25 #[.string s] w λe w'=>e=Rt (Tu #[.string (tQ (an s).2.1),I Y 0])/\Below w.heap.size w w'):=by
   refine HRP.out.mono ?_;rintro e w' ⟨⟨h,_⟩|⟨_,_,rfl⟩|⟨_,h,_⟩,hb'⟩
   ·exact absurd h hs
   ·exact⟨rfl,hb'⟩
   ·exact absurd h he
  clear HRP hs hsz HCK;generalize (an s).1.1=V at *;generalize (an s).1.2.1=F at *;generalize (an s).1.2.2=c at *;generalize (an s).2.1=ln at *;generalize (an s).2.2=er at *;have f1:(er !=0)=true:=by simpa using he
  have z1:=gZ ln hfl;clear he;go_enter Tryz.func7,Tryz.ntmps7;go_wp2_with (go_at_call 25;fail);refine HR1.out.mono ?_;rintro e w1 ⟨rfl,hb1⟩;clear HR1;go_wp2_with (go_at_call 26;fail);refine(HPO.out w1).mono ?_;rintro e w2 ⟨⟨v2,rfl,hown⟩,hb2⟩;obtain⟨sa,sc,rfl,-⟩:=c8 hown;have hb3:Below w2.heap.size w2 (w2.alloc (Cc #[I Y V,I Y F,U sa c.length sc] 24)):=by go_grown
  have B2:=hb1.trans (hb2.mono hb1.size);have B3:=B2.trans (hb3.mono B2.size);clear hown HPO hb1 hb2 hb3 B2
  go_upto_region 3 with fail
  generalize w2.alloc (Cc #[I Y V,I Y F,U sa c.length sc] 24)=w3 at *;go_wp2_with (go_at_call 27;fail);refine(kS ln w3 hfl).mono ?_;rintro e w4 ⟨rfl,hb4⟩;have B4:=B3.trans (hb4.mono B3.size);unfold tQ;clear B3 hb4;go_wp2_with (go_at_call 24;fail);refine(ij w4 (HTB.out w4 B4) (HMB.out w4 B4) (HEB.out w4 B4)).mono ?_;rintro e w5 ⟨rfl,hb5⟩;have B5:=B4.trans (hb5.mono B4.size);go_wp2;go_ret;exact⟨rfl,B5⟩
 have h0:=HCK.out he;obtain⟨m,HR1,hsv⟩:∃m,Hid (Calls pG 25 #[.string s] w λe w'=>e=Rt (Tu #[.string (b9 (aE (an s).1.2.2 (aA (an s).1.1 (an s).1.2.1 (an s).1.2.2 m) (an s).1.2.2.length)),I Y 0])/\Below w.heap.size w w')/\SolvedAt (an s).1.1 (an s).1.2.1 (an s).1.2.2 m:=by
  obtain⟨m,hsv⟩:=Dz h0;refine⟨m,?_,hsv⟩;refine HRP.out.mono ?_;rintro e w' ⟨⟨h,_⟩|⟨_,h,_⟩|⟨_,_,_,m',hs',rfl⟩,hb'⟩
  ·exact absurd h hs
  ·exact absurd he h
  ·obtain rfl:=hs'.one hsv
   exact⟨rfl,hb'⟩
 clear HRP hs hsz HCK hfl;generalize (an s).1.1=V at *;generalize (an s).1.2.1=F at *;generalize (an s).1.2.2=c at *;generalize (an s).2.1=ln at *;generalize (an s).2.2=er at *;subst he;have h60:=(bw h0).2.2;have HAO:=aa (λwx sa sc (hc:CodeAt wx sa c)=>vE V F sa c sc m wx hc h0 hsv);have HFI:Hid (∀q∈aE c (aA V F c m) c.length,gJ q.1):=λq hq=>by have:=km hq;exact⟨by omega,by omega⟩
 have HKI:Hid (∀q∈aE c (aA V F c m) c.length,q.2=1\/q.2=2\/q.2=3):=λq hq=>uR hq;have hll:(aE c (aA V F c m) c.length).length<=180:=by have:=eX (c:=c) (L:=aA V F c m) (k:=c.length);omega
 generalize aE c (aA V F c m) c.length=A at *;clear hsv h0 h60;have HLE:Hid (∀k,k<=A.length->(b9 (A.take k)).size<=40 * k):=λk hk=>kf HFI.out hk;obtain⟨TT,eTT⟩:∃t,t=b9 A:=⟨_,rfl⟩;rw[<-eTT] at HR1;have HTT:=aa eTT;clear eTT;go_enter Tryz.func7,Tryz.ntmps7;go_wp2_with (go_at_call 25;fail);refine HR1.out.mono ?_;rintro e w1 ⟨rfl,hb1⟩;clear HR1;go_wp2_with (go_at_call 26;fail);refine(HPO.out w1).mono ?_;rintro e w2 ⟨⟨v2,rfl,hown⟩,hb2⟩;obtain⟨sa,sc,rfl,hc2⟩:=c8 hown;have hb3:Below w2.heap.size w2 (w2.alloc (Cc #[I Y V,I Y F,U sa c.length sc] 24)):=by go_grown
 have B2:=hb1.trans (hb2.mono hb1.size);have B3:=B2.trans (hb3.mono B2.size);have P3:Cells (w2.alloc (Cc #[I Y V,I Y F,U sa c.length sc] 24)) w2.heap.size [I Y V,I Y F,U sa c.length sc]:=Cells.new w2 _ [_,_,_];have C3:=hc2.call hb3;clear hown HPO hb1 hb2 hb3 B2 hc2
 go_upto_region 3 with fail
 generalize w2.alloc (Cc #[I Y V,I Y F,U sa c.length sc] 24)=w3 at *;have p0:=P3.1 0 _ rfl;have p1:=P3.1 1 _ rfl;have p2:=P3.1 2 _ rfl;go_wp2_with (go_at_call 23;fail);refine(HAO.out w3 sa sc C3).mono ?_;rintro e w4 ⟨⟨a,ac,rfl,hD⟩,hb4⟩;have HD:=aa hD;have B4:=B3.trans (hb4.mono B3.size);clear hD HAO p0 p1 p2 P3 C3 hb4 B3;go_wp2;go_loopw [8,10] (λv i wr=>∃(k:Nat) (X:ByteArray),k<=A.length/\i=I Y k/\v=.string X/\Hid (X=b9 (A.take k))/\Below w4.heap.size w4 wr) (λ_ i _=>A.length - (intOf i).toNat)
 case atStart=>exact⟨0,_,j1 _,rfl,rfl,rfl,bR _ _⟩
 case round=>
  obtain⟨k,X,hk,rfl,rfl,HX,BR⟩:=hrel;by_cases hlt:k < A.length;rotate_left
  ·have n2:¬(k:Int) < (A.length:Int):=by omega
   have HF:Hid (X=TT):=by show _=_;rw[HX.out,HTT.out,j6 (by omega)]
   obtain rfl:=HF.out;have B5:=B4.trans (BR.mono B4.size);clear HX HTT HF B4 BR HD;generalize wr=w5 at *;go_wp2_with (go_at_call 24;fail);refine(ij w5 (HTB.out w5 B5) (HMB.out w5 B5) (HEB.out w5 B5)).mono ?_;rintro e w6 ⟨rfl,hb6⟩;have B6:=B5.trans (hb6.mono B5.size);go_wp2;go_ret;exact⟨rfl,B6⟩
  have m0:(0:Int)<=(k:Int):=by omega
  have m1:(k:Int) < (A.length:Int):=by omega
  obtain⟨b1,rfl,z1,c1,e1⟩:=HD.out.below BR k hlt;have hf1:=HFI.out _ (gM hlt);have hki:=HKI.out _ (gM hlt);have HNX:=aa (ki hlt);have zX:X.size<=40 * k:=by rw[HX.out];exact HLE.out k hk
  obtain⟨⟨a1,d1⟩,ea⟩:∃q,q=A[k]:=⟨_,rfl⟩;rw[<-ea] at c1 e1 HNX hf1 hki;clear ea;simp only at c1 e1 HNX hf1 hki;have zi:=gZ a1 hf1;rcases hki with e|e|e
  ·subst e
   have HN:Hid (X++(dI a1++⟨#[32]⟩++⟨#[119,114,111,110,103]⟩++⟨#[10]⟩)=b9 (A.take (k+1))):=by show _=_;rw[HNX.out,HX.out];rfl
   exact mi
  ·subst e
   have HN:Hid (X++(dI a1++⟨#[32]⟩++⟨#[102,97,105,108,101,100]⟩++⟨#[10]⟩)=b9 (A.take (k+1))):=by show _=_;rw[HNX.out,HX.out];rfl
   exact mi
  ·subst e
   have HN:Hid (X++(dI a1++⟨#[32]⟩++⟨#[105,100,108,101]⟩++⟨#[10]⟩)=b9 (A.take (k+1))):=by show _=_;rw[HNX.out,HX.out];rfl
   exact mi
end
section
open Go.ChangeShapes Go.WideShapes Go.ChangeAt Go.RowKit
namespace alarmReports

theorem contract (H:Type)(enc:TypeId×Value->H)(W:World)(base:Nat)(args:Array Value)(ds gs:List (DataW H))(before:List MemPlace)
  (hval:∀(j:Nat) t v,Tryz.f7.params[j]? =sO t->args[j]? =sO v->Value.okWide pG W .any base t v)
  (hW:DataW.Whole enc pG Tryz.f7.params.toList Rows.alarmReportsSpec.vars false W args.toList ds gs before)(hL:laidMetH pG Rows.alarmReportsRow.laid W)(hS:W.ShapedOpen pG):
  Calls pG 7 args W λe W'=>∃v,e=Rt v/\Rows.alarmReportsSpec.post enc pG Tryz.f7 false true false false W args v W':=by
 have hlt:=hW.lt;have hW':=hW;obtain⟨p,q,hA0,hV,rfl,hfz,hnd⟩:=hW;have hA:DataW.TrodAll enc pG W 0 (λ_=>true) true Tryz.f7.params.toList args.toList ds p:=hA0;rw[Tryz.params7] at hA hval;obtain⟨v0,vs0,d0,ds0,p0,q0,e0,rfl,rfl,h0,hr0⟩:=trodAll_cons hA;obtain⟨rfl,rfl,rfl⟩:=trodAll_nil hr0;have ea:args=#[v0]:=by cases args;simp_all
 subst ea;obtain⟨rfl,rfl⟩:=trodVars_none hV;obtain⟨t,rfl,-,-,hlen0⟩:=Go.ChangeMaps.open_string Tryz.underlying9 (hval 0 9 v0 rfl rfl) h0;have hL':laidMet pG (("math/bits.deBruijn32tab",Rows.laid_math_bits_deBruijn32tab)::("math/bits.deBruijn64tab",Rows.laid_math_bits_deBruijn64tab)::("internal/strconv.uint64pow10",Rows.laid_internal_strconv_uint64pow10)::("unicode/utf8.acceptRanges",Rows.laid_unicode_utf8_acceptRanges)::("strconv.ErrRange",Rows.laid_strconv_ErrRange)::("strconv.ErrSyntax",Rows.laid_strconv_ErrSyntax)::[("unicode/utf8.first",Rows.laid_unicode_utf8_first)]) W:=hL;have hT:=Ko hL'.tail.tail;have hE:=Hj hL'.tail.tail.tail.tail.tail;have hM:Cap W:=Kq hS;refine(ph t W hT hM hE).mono λe W' ⟨he,hb⟩=> ?_;subst he;refine⟨_,rfl,_,_,_,[],p0++[],[],hW',?_,?_,?_,hb.frame _,λh=>by cases h⟩
 ·exact trodAll_mk1 (shut_bool Tryz.underlying4 _)
 ·rw[Tryz.params7]
  exact trodAll_cons_mk (Below.trod (by kernel_rfl) (by kernel_rfl) (of_decide_eq_true (by kernel_rfl)) h0 hb (λx hx=>hlt x (by simp[hx]))) (rfl)
 ·rfl

theorem witness_row (os:Os){H:Type}(enc:TypeId×Value->H):
  (OpenSpec.ofChange Rows.alarmReportsSpec).preRow enc pG Tryz.f7 Rows.alarmReportsRow.domain false Rows.alarmReportsRow.laid ((iz pG os).forCall (λ_ _=>0) ⟨#[],#[.string ⟨#[]⟩],[]⟩).memory #[.string ⟨#[]⟩]:=by
 have hw:(DataW.whole enc pG ((iz pG os).forCall (λ_ _=>0) ⟨#[],#[.string ⟨#[]⟩],[]⟩).memory Tryz.f7.params.toList Rows.alarmReportsSpec.vars false #[Value.string ⟨#[]⟩].toList 8).isSome=true:=by kernel_rfl
 obtain⟨x,hx⟩:=Option.isSome_iff_exists.1 hw;exact OpenSpec.preRow_of_cond 8 hx rfl (λk hk=>by cases hk) (by kernel_rfl) (Es os _)

theorem lifted (os:Os)(started:os.Started)(H:Type)(enc:TypeId×Value->H)(F:Stop.Interp):
  ReturnsInHanded {} Tryz.checked os 7 .any ((OpenSpec.ofChange Rows.alarmReportsSpec).preRow enc pG Tryz.f7 Rows.alarmReportsRow.domain false Rows.alarmReportsRow.laid) (((OpenSpec.ofChange Rows.alarmReportsSpec).at F).post enc pG Tryz.f7 false true false false):=by
 refine returnsInHanded_of_row (C:=Tryz.checked) (s:=OpenSpec.ofChange Rows.alarmReportsSpec) own started (by kernel_rfl) Tryz.func7
  (witness_row_atRef (enc:=enc) (C:=Tryz.checked) false (iz pG os) #[.string ⟨#[]⟩] rfl (by kernel_rfl) (by kernel_rfl) (by kernel_rfl) (witness_row os enc)) ?_
 intro W base args ds gs before hval hW _ _ _ hL hS _;exact contract H enc W base args ds gs before hval hW hL hS

theorem and_t {a b:Bool}(h:a=true)(k:b=true):(a&&b)=true:=by rw[h,k];rfl
theorem closed:joinedFacts pG 7 Tryz.f7 (OpenSpec.ofChange Rows.alarmReportsSpec).bare Rows.alarmReportsRow=true:=by
 unfold joinedFacts
 repeat' (with_reducible refine and_t ?_ ?_)
 all_goals (as_aux_lemma=>kernel_rfl)

theorem said:Rows.AlarmReportsSaid:=
 OpenClaim.holds_of_cond 7 Tryz.f7 rfl rfl rfl rfl rfl rfl rfl ⟨rfl,rfl,rfl,rfl,rfl⟩ rfl rfl rfl rfl rfl (by kernel_rfl) Tryz.func7 closed
  (of_decide_eq_true (by kernel_rfl)) (by unfold Func.isWrapper;first|(rw[if_pos (by decide+kernel)];kernel_rfl)|(rw[if_neg (by decide+kernel)];exact⟨rfl,rfl⟩))
  (λos started H enc _ F=>by rw[OpenClaim.pre_eq_preRow];exact lifted os started H enc F)

theorem plain (f:FuncId)(fn:Func)(hf:Tryz.pinned.checked.prog.funcNamed "soundings/soundingslaw.AlarmReports" =sO f)(hfn:Tryz.pinned.checked.prog.funcs[f]? =sO fn):
  true=Tryz.pinned.checked.prog.looks []/\∀(j:Nat) t,fn.params[j]? =sO t->Tryz.pinned.checked.prog.wantsStandIn t=false:=by
 obtain rfl:f=7:=j8.inj ((show Tryz.prog.funcNamed "soundings/soundingslaw.AlarmReports" =sO 7 by kernel_rfl).symm.trans hf) |>.symm;obtain rfl:fn=Tryz.f7:=(j8.inj (Tryz.func7.symm.trans hfn)).symm;refine⟨by kernel_rfl,λj t ht=> ?_⟩;rw[Tryz.params7] at ht;have hm:t=9:=by simpa using Array.mem_of_getElem? ht
 rcases hm with rfl;exact(show Tryz.prog.wantsStandIn 9=false by kernel_rfl)
end alarmReports

theorem alarmReports_holds:Rows.AlarmReportsCardSaid:=
 Claim7.holds_tied_plain_at .later [] _ _ _ _ alarmReports.said (λ_ h=>by cases h) (by kernel_rfl) (λ_ h=>by cases h) alarmReports_row_tie rfl ⟨rfl,rfl⟩ (by kernel_rfl) rfl alarmReports.plain (by kernel_rfl)
end
end Go.Proofs.YtmapdpcfanecdabGreatDoor
