import Derived.Test.YtmapdpcfanecdabGreatDoorR13
import Derived.Laws.EntriesVeiled
open Go.Ending renaming returned→Rt
open Go.IntKind renaming i64→Y
open Go.Obj renaming cells→Cc
open Go.Proofs.Tryz renaming prog→pG
open Go.RowKit.Below renaming heap_setCell→hSe,refl→bR
open Go.Value renaming agg→Ag,bool→Bb,int→I,ownBlock→j5,pointer→Pp,slice→U,tuple→Tu
open Go.World renaming cell?_of_block→z7,frozen?_of_block→z8,grownBy_alloc→j3,ownsRow_lit→z6,size_alloc→zA
open List renaming Pairwise→q0,append_nil→x6,filter_cons→x4,filter_nil→x5,getElem?_append_right→z5,getElem?_eq_getElem→J2,getElem?_set→j4,getElem_mem→gM,getElem_set_ne→q6,length_append→q8,length_replicate→j7,length_set→q5,map_append→q9,map_cons→x0,map_nil→x3,mem_cons→z1,mem_filter→j8,mem_map→x7,mem_range→j9,pairwise_lt_range→x9,pairwise_map→x8,replicate→j1,replicate_succ'→q7
open Nat renaming le_refl→lR,le_trans→lT,lt_of_lt_of_le→lL,zero_add→j0,zero_le→j2
open Option renaming none→nO,some→j6,some→sO
open Go.Proofs.Tryz
set_option linter.unusedSimpArgs false
set_option linter.unusedVariables false
set_option maxHeartbeats 32000000
set_option maxRecDepth 100000
namespace Go.Proofs.YtmapdpcfanecdabGreatDoor
section
open Go.RowKit
attribute [local go_sem ↓] Go.wp_at_zero Go.wp_at_succ
theorem fe {V F:Int}{c:lI}(h:au V F c=0):(1<=V/\V<=8)/\(0<=F/\F<=3)/\c.length<=60:=by
 unfold au at h;split at h
 ·cases h
 ·rename_i h3
  split at h
  ·cases h
  ·rename_i h60
   simp[btw] at h3;exact⟨⟨aa,aa⟩,⟨aa,aa⟩,aa⟩
def XsAt (w:World)(ls:oA)(L:List Pic):Prop:=
 ∀i (h:i < L.length),∃b off,ls=sO ⟨b,off,nO⟩/\b < w.heap.size/\∃vs vc fs fc,(w.cell? ⟨b,off+i * 3,nO⟩=sO (Bb L[i].none)/\w.cell? ⟨b,off+i * 3+1,nO⟩=sO (U vs L[i].vq.length vc)/\w.cell? ⟨b,off+i * 3+2,nO⟩=sO (U fs L[i].fq.length fc))/\PicAt w L[i] vs fs/\(L[i].vq.length<=vc/\vc<=maxLen)/\(L[i].fq.length<=fc/\fc<=maxLen)
theorem XsAt.below {B:Nat}{w w':World}{ls:oA}{L:List Pic}(h:XsAt w ls L)(hb:Below B w w')(hB:w.heap.size<=B):XsAt w' ls L:=by
 intro i hi;obtain⟨b,off,e,hz,vs,vc,fs,fc,⟨h0,h1,h2⟩,hP,hQ⟩:=h i hi;exact⟨b,off,e,lL hz hb.size,vs,vc,fs,fc,⟨by rw[hb.cell (by simp only;omega)];exact h0,by rw[hb.cell (by simp only;omega)];exact h1,by rw[hb.cell (by simp only;omega)];exact h2⟩,hP.below hb hB,hQ⟩
theorem LT (V F:Int)(c:lI)(L:List Pic)(k:Nat)(h:k < L.length):cV V F c (L.drop k)=if aO V F c L[k]=0 then cV V F c (L.drop (k+1)) else aO V F c L[k]:=by
 rw[List.drop_eq_getElem_cons h];rfl
end
section
open Go.RowKit Go
def PRow (S:Nat->Prop)(W:World)(pb:Nat)(L:List Pic):Prop:=∃cs,Cells W pb cs/\L.length * 3<=cs.length/\∀i (h:i < L.length),∃vs vc fs fc,(cs[i * 3]? =sO (Bb L[i].none)/\cs[i * 3+1]? =sO (U vs L[i].vq.length vc)/\cs[i * 3+2]? =sO (U fs L[i].fq.length fc))/\PicOn S W L[i] vs fs/\(L[i].vq.length<=vc/\vc<=maxLen)/\(L[i].fq.length<=fc/\fc<=maxLen)
def DRow (W:World)(db:Nat)(D:List Int):Prop:=∃cs,Cells W db cs/\D.length<=cs.length/\∀i (h:i < D.length),cs[i]? =sO (I Y D[i])
section
variable {S:Nat->Prop} {W W':World} {pb db:Nat} {L:List Pic} {D:List Int}
theorem PRow.xs (h:PRow S W pb L):XsAt W (sO ⟨pb,0,nO⟩) L:=λi hi=>by
 obtain⟨cs,hc,hz,h⟩:=h;obtain⟨vs,vc,fs,fc,⟨h0,h1,h2⟩,hp,hq⟩:=h i hi;refine⟨pb,0,rfl,hc.2.1,vs,vc,fs,fc,⟨?_,?_,?_⟩,hp.at,hq⟩
 ·rw[j0];exact hc.1 _ _ h0
 ·rw[j0];exact hc.1 _ _ h1
 ·rw[j0];exact hc.1 _ _ h2
theorem PRow.mono {S':Nat->Prop}(h:PRow S W pb L)(hs:∀b,S b->b < W.heap.size->S' b):PRow S' W pb L:=by
 obtain⟨cs,hc,hl,h⟩:=h;refine⟨cs,hc,hl,λi hi=> ?_⟩;obtain⟨vs,vc,fs,fc,h0,hp,hq⟩:=h i hi;exact⟨vs,vc,fs,fc,h0,hp.mono hs,hq⟩
theorem PRow.far (h:PRow S W pb L)(hp:W'.heap[pb]? =W.heap[pb]?)(hs:∀b,S b->b < W.heap.size->W'.heap[b]? =W.heap[b]?)(hz:W.heap.size<=W'.heap.size):PRow S W' pb L:=by
 obtain⟨cs,hc,hl,h⟩:=h;refine⟨cs,hc.same hp hz,hl,λi hi=> ?_⟩;obtain⟨vs,vc,fs,fc,h0,hp,hq⟩:=h i hi;exact⟨vs,vc,fs,fc,h0,(hp.same hs hz).mono λb hb _=>hb.1,hq⟩
theorem PRow.call (h:PRow S W pb L)(hb:bl W W'):PRow S W' pb L:=h.far (hb.block pb h.choose_spec.1.2.1) (λb _ hlt=>hb.block b hlt) hb.size
theorem DRow.far (h:DRow W db D)(hp:W'.heap[db]? =W.heap[db]?)(hz:W.heap.size<=W'.heap.size):DRow W' db D:=by
 obtain⟨cs,hc,h⟩:=h;exact⟨cs,hc.same hp hz,h⟩
theorem DRow.call (h:DRow W db D)(hb:bl W W'):DRow W' db D:=h.far (hb.block db h.choose_spec.1.2.1) hb.size
theorem DRow.get (h:DRow W db D){k:Nat}(hk:k < D.length):W.cell? ⟨db,k,nO⟩=sO (I Y D[k]):=by
 obtain⟨cs,hc,hz,h⟩:=h;exact hc.1 _ _ (h k hk)
theorem PRow.cell (h:PRow S W pb L){k:Nat}(hk:k < L.length):∃vs vc fs fc,(W.cell? ⟨pb,k * 3,nO⟩=sO (Bb L[k].none)/\W.cell? ⟨pb,k * 3+1,nO⟩=sO (U vs L[k].vq.length vc)/\W.cell? ⟨pb,k * 3+2,nO⟩=sO (U fs L[k].fq.length fc))/\PicOn S W L[k] vs fs/\(L[k].vq.length<=vc/\vc<=maxLen)/\(L[k].fq.length<=fc/\fc<=maxLen)/\pb < W.heap.size/\∀j,W.frozen? ⟨pb,j,nO⟩=false:=by
 obtain⟨cs,hc,hz,h⟩:=h;obtain⟨vs,vc,fs,fc,⟨h0,h1,h2⟩,hp,hv,hf⟩:=h k hk;exact⟨vs,vc,fs,fc,⟨hc.1 _ _ h0,hc.1 _ _ h1,hc.1 _ _ h2⟩,hp,hv,hf,hc.2⟩
theorem PRow.put (h:PRow S W pb L)(hS:∀b,S b->b≠pb){k:Nat}(hk:k < L.length){y:Pic}{vs fs:oA}{vc fc:Nat}(hy:PicOn S W y vs fs)(hv:y.vq.length<=vc/\vc<=maxLen)(hf:y.fq.length<=fc/\fc<=maxLen)(e:W'=bD W pb (k * 3) [Bb y.none,U vs y.vq.length vc,U fs y.fq.length fc]):
  PRow S W' pb (L.set k y)/\(∀q,q≠pb->W'.heap[q]? =W.heap[q]?)/\W.heap.size<=W'.heap.size/\∀{B:Nat} {a:World},B<=pb->Below B a W->Below B a W':=by
 obtain⟨cs,hc,hz,h⟩:=h;have P:=bO hc (k * 3) _ e ap;refine⟨⟨_,P.cells,?_,λi hi=> ?_⟩,P.far,P.size,P.low⟩
 ·simp[lH];omega
 ·rw[q5] at hi
  by_cases ek:k=i
  ·subst ek
   refine⟨vs,vc,fs,fc,?_,?_,?_,?_⟩
   ·rw[List.getElem_set_self]
    simp only[lH,j4,q5];refine⟨?_,?_,?_⟩
    ·rw[if_neg aa,if_neg aa,if_pos trivial,if_pos aa]
    ·rw[if_neg aa,if_pos trivial,if_pos aa]
    ·rw[if_pos trivial,if_pos aa]
   ·simpa using(hy.same (λb hb _=>P.far b (hS b hb)) P.size).mono λb hb _=>hb.1
   ·simpa using hv
   ·simpa using hf
  ·obtain⟨vs',vc',fs',fc',⟨h0,h1,h2⟩,hp,hq⟩:=h i hi
   refine⟨vs',vc',fs',fc',?_,?_,?_⟩
   ·rw[q6 ek]
    refine⟨?_,?_,?_⟩
    ·rw[<-h0];simp only[lH,j4];repeat rw[if_neg aa]
    ·rw[<-h1];simp only[lH,j4];repeat rw[if_neg aa]
    ·rw[<-h2];simp only[lH,j4];repeat rw[if_neg aa]
   ·rw[q6 ek]
    exact(hp.same (λb hb _=>P.far b (hS b hb)) P.size).mono λb hb _=>hb.1
   ·rw[q6 ek];exact hq
theorem DRow.put (h:DRow W db D){k:Nat}{v:Int}(e:W'=bD W db k [I Y v])(hk:k < D.length):
  DRow W' db (D.set k v)/\(∀q,q≠db->W'.heap[q]? =W.heap[q]?)/\W.heap.size<=W'.heap.size/\∀{B:Nat} {a:World},B<=db->Below B a W->Below B a W':=by
 obtain⟨cs,hc,hz,h⟩:=h;have P:=bO hc k _ e ap;refine⟨⟨_,P.cells,?_,λi hi=> ?_⟩,P.far,P.size,P.low⟩
 ·simpa[lH] using hz
 ·rw[q5] at hi
  simp only[lH,j4,List.getElem_set];by_cases ek:k=i
  ·subst ek
   rw[if_pos rfl,if_pos aa,if_pos rfl]
  ·rw[if_neg ek,if_neg ek]
   exact h i hi
end
end
section
open Go.RowKit
attribute [local go_sem ↓] Go.wp_at_zero Go.wp_at_succ
theorem Tryz.info_pic:(Tryz.prog.info? 28).map (λi=>(i.zero,i.size,i.bytes))=sO (sO (Ag #[Bb false,U nO 0 0,U nO 0 0]),3,56):=ae
theorem Tryz.info_intV:(Tryz.prog.info? 3).map (λi=>(i.zero,i.size,i.bytes))=sO (sO (I Y 0),1,8):=ae
def npC:List Value:=[Bb true,U nO 0 0,U nO 0 0]
def iO (x:Pic)(vs:oA)(vc:Nat)(fs:oA)(fc k:Nat):List Value:=[Bb x.none,U vs x.vq.length vc,U fs x.fq.length fc]++(j1 k npC).flatten
def mW (k:Nat):List Value:=I Y 1::j1 k (I Y 0)
theorem wl {x:Pic}{vs:oA}{vc:Nat}{fs:oA}{fc k:Nat}:iO x vs vc fs fc k++npC=iO x vs vc fs fc (k+1):=by
 unfold iO;rw[List.append_assoc,q7,List.flatten_append];rfl
theorem LJ {k:Nat}:mW k++[I Y 0]=mW (k+1):=by
 unfold mW;rw[q7];rfl
theorem WU {k i j:Nat}(hi:i < k)(hj:j < 3):(j1 k npC).flatten[i * 3+j]? =npC[j]? :=by
 induction k generalizing i with
 |zero=>omega
 |succ k ih=>
  rw[List.replicate_succ,List.flatten_cons];cases i with
  |zero=>rw[List.getElem?_append_left (by simp[npC];omega)];simp
  |succ i=>
   rw[z5 (by simp[npC];omega)];have e:(i+1) * 3+j - npC.length=i * 3+j:=by simp[npC];omega
   rw[e];exact ih aa
theorem EU {W:World}{B z g k cap:Nat}{e:TypeId}{xs:List Value}(h:W.ownsRow B e z (U (sO ⟨g,0,nO⟩) k cap) k xs):Cells W g xs:=by
 have hl:=h.1;refine⟨λj v hj=> ?_,(h.lt g rfl).2,λj=>h.frozenAt j⟩;have:j < xs.length:=by
  apply Decidable.byContradiction;intro hn;rw[List.getElem?_eq_none aa] at hj;cases hj
 rw[h.cellAt j aa];exact hj
theorem Pd (W:World):PicAt W nonePic nO none:=⟨λi hi=>absurd hi uC,λi hi=>absurd hi uC⟩
theorem FO {w W:World}{B g k cap:Nat}{e:TypeId}{x:Pic}{vs:oA}{vc:Nat}{fs:oA}{fc:Nat}(h:W.ownsRow B e 3 (U (sO ⟨g,0,nO⟩) (k+1) cap) (k+1) (iO x vs vc fs fc k))(hb:bl w W)(hx:PicAt w x vs fs)(h1:x.vq.length<=vc/\vc<=maxLen)(h2:x.fq.length<=fc/\fc<=maxLen):PRow (λb=>b < w.heap.size) W g (x::j1 k nonePic):=by
 refine⟨_,EU h,by rw[h.1];simp,λi hi=> ?_⟩;cases i with
 |zero=>exact⟨vs,vc,fs,fc,⟨rfl,rfl,rfl⟩,λw2 h2 hz=>hx.same (λb hlt=>(h2 b hlt (lL hlt hb.size)).trans (hb.block b hlt)) (lT hb.size hz),h1,h2⟩
 |succ i=>
  have hi':i < k:=fN;have ex:(x::j1 k nonePic)[i+1]=nonePic:=ah;rw[ex];have q:∀j,j < 3->(iO x vs vc fs fc k)[(i+1) * 3+j]? =npC[j]? :=λj hj=>by
   unfold iO;rw[z5 ap];have e:(i+1) * 3+j - [Value.bool x.none,U vs x.vq.length vc,U fs x.fq.length fc].length=i * 3+j:=ap;rw[e];exact WU hi' hj
  exact⟨nO,0,nO,0,⟨q 0 aa,q 1 aa,q 2 aa⟩,λw2 _ _=>Pd w2,⟨lR _,j2 _⟩,⟨lR _,j2 _⟩⟩
theorem SO {W:World}{B g k cap:Nat}{e:TypeId}(h:W.ownsRow B e 1 (U (sO ⟨g,0,nO⟩) (k+1) cap) (k+1) (mW k)):DRow W g (1::j1 k 0):=by
 refine⟨_,EU h,by rw[h.1];simp,λi hi=> ?_⟩;cases i with
 |zero=>rfl
 |succ i=>
  have hi':i < k:=fN;simp[mW,hi']
structure NewAt (w:World) (V F:Int) (s:oA) (c:lI) (cap:Nat) (x:Pic) (vs:oA) (vc:Nat) (fs:oA) (fc:Nat) (i j pb pc db dc:Nat) (W:World):Prop where
 st:Cells W (w.heap.size+1+1+1+1) [I Y V,I Y F,U s c.length cap,U (sO ⟨pb,0,nO⟩) (i+1) pc,U (sO ⟨db,0,nO⟩) (j+1) dc]
 pr:W.ownsRow (w.heap.size+1+1) 28 3 (U (sO ⟨pb,0,nO⟩) (i+1) pc) (i+1) (iO x vs vc fs fc i)
 dr:W.ownsRow (w.heap.size+1+1) 3 1 (U (sO ⟨db,0,nO⟩) (j+1) dc) (j+1) (mW j)
 ne:pb≠db/\pb≠w.heap.size+1+1+1+1/\db≠w.heap.size+1+1+1+1
 lo:bl w W
 sz:w.heap.size+1+1+1+1 < W.heap.size
theorem iY (w:World)(t:TypeId)(cs:List Value):∀ad,sO (⟨w.heap.size,0,nO⟩:Addr)=sO ad->∀j u,cs[j]? =sO u->(w.alloc (Cc cs.toArray t)).cell? (ad.add j)=sO u:=by
 intro ad e j u hj;cases e;have pl:=Kp;rw[pl];exact(Cells.new w t cs).1 j u hj
theorem NewAt.growP {w W W4:World}{V F:Int}{s:oA}{c:lI}{cap:Nat}{x:Pic}{vs:oA}{vc:Nat}{fs:oA}{fc i j pb pc db dc:Nat}{O:Obj}{v':Value}(N:NewAt w V F s c cap x vs vc fs fc i j pb pc db dc W)(hown:W4.ownsRow (w.heap.size+1+1) 28 3 v' (i+1+1) (iO x vs vc fs fc i++npC))(hgrow:(W.alloc O).grownBy W4 (sO pb))(hat:v'.ownBlock=sO pb\/v'.ownBlock=sO (W.alloc O).heap.size):
  ∃g cp,v'=U (sO ⟨g,0,nO⟩) (i+1+1) cp/\Cells W4 (w.heap.size+1+1+1+1) [I Y V,I Y F,U s c.length cap,U (sO ⟨pb,0,nO⟩) (i+1) pc,U (sO ⟨db,0,nO⟩) (j+1) dc]/\∀wq,wq=bD W4 (w.heap.size+1+1+1+1) 3 [v']->NewAt w V F s c cap x vs vc fs fc (i+1) j g cp db dc wq:=by
 have N':=N;obtain⟨n1,n2,n3,n4,n5,n6⟩:=N;have hdb:=n3.lt db rfl;have hpb:=n2.lt pb rfl;have hz:=pL;have hz4:=hgrow.size;have far:∀b,b < W.heap.size->b≠pb->W4.heap[b]? =W.heap[b]? :=λb hb hne=>(hgrow.block b aa (λe=>hne (by cases e;rfl))).trans (Below.heap_alloc _ _ _ hb);have st4:=n1.same (far _ n6 (Ne.symm n4.2.1)) aa;have dr4:=(n3.kept (j3 W O nO) (.inr ku)).kept hgrow (.inr (λe=>n4.1 (by cases e;rfl)));have lo4:=Hw;rcases hown.2 with⟨_,h⟩|⟨g,cp,cur,rfl,-⟩
 ·omega
 have hg:=hown.lt g rfl;have hgn:g≠db/\g≠w.heap.size+1+1+1+1:=by
  rcases hat with h|h
  ·simp only[j5,j6.injEq] at h
   rw[h];exact⟨n4.1,n4.2.1⟩
  ·simp only[j5,j6.injEq] at h
   rw[h,hz];exact⟨aa,aa⟩
 refine⟨g,cp,rfl,st4,λwq e=> ?_⟩;have PQ:=bO st4 3 _ e;refine⟨PQ.cells,?_,?_,⟨hgn.1,hgn.2,n4.2.2⟩,PQ.low aa lo4,by have:=PQ.size;omega⟩
 ·rw[wl] at hown
  exact bB hown (λk hk=>by cases hk;exact PQ.far _ hgn.2)
 ·exact bB dr4 (λk hk=>by cases hk;exact PQ.far _ n4.2.2)
theorem NewAt.growD {w W W4:World}{V F:Int}{s:oA}{c:lI}{cap:Nat}{x:Pic}{vs:oA}{vc:Nat}{fs:oA}{fc i j pb pc db dc:Nat}{O:Obj}{v':Value}(N:NewAt w V F s c cap x vs vc fs fc i j pb pc db dc W)(hown:W4.ownsRow (w.heap.size+1+1) 3 1 v' (j+1+1) (mW j++[I Y 0]))(hgrow:(W.alloc O).grownBy W4 (sO db))(hat:v'.ownBlock=sO db\/v'.ownBlock=sO (W.alloc O).heap.size):
  ∃g cp,v'=U (sO ⟨g,0,nO⟩) (j+1+1) cp/\Cells W4 (w.heap.size+1+1+1+1) [I Y V,I Y F,U s c.length cap,U (sO ⟨pb,0,nO⟩) (i+1) pc,U (sO ⟨db,0,nO⟩) (j+1) dc]/\∀wq,wq=bD W4 (w.heap.size+1+1+1+1) 4 [v']->NewAt w V F s c cap x vs vc fs fc i (j+1) pb pc g cp wq:=by
 obtain⟨n1,n2,n3,n4,n5,n6⟩:=N;have hdb:=n3.lt db rfl;have hpb:=n2.lt pb rfl;have hz:=pL;have hz4:=hgrow.size;have far:∀b,b < W.heap.size->b≠db->W4.heap[b]? =W.heap[b]? :=λb hb hne=>(hgrow.block b aa (λe=>hne (by cases e;rfl))).trans (Below.heap_alloc _ _ _ hb);have st4:=n1.same (far _ n6 (Ne.symm n4.2.2)) aa;have pr4:=(n2.kept (j3 W O nO) (.inr ku)).kept hgrow (.inr (λe=>n4.1 (by cases e;rfl)));have lo4:=Hw;rcases hown.2 with⟨_,h⟩|⟨g,cp,cur,rfl,-⟩
 ·omega
 have hg:=hown.lt g rfl;have hgn:pb≠g/\g≠w.heap.size+1+1+1+1:=by
  rcases hat with h|h
  ·simp only[j5,j6.injEq] at h
   rw[h];exact⟨n4.1,n4.2.2⟩
  ·simp only[j5,j6.injEq] at h
   rw[h,hz];exact⟨aa,aa⟩
 refine⟨g,cp,rfl,st4,λwq e=> ?_⟩;have PQ:=bO st4 4 _ e;refine⟨PQ.cells,?_,?_,⟨hgn.1,n4.2.1,hgn.2⟩,PQ.low aa lo4,by have:=PQ.size;omega⟩
 ·exact bB pr4 (λk hk=>by cases hk;exact PQ.far _ n4.2.1)
 ·rw[LJ] at hown
  exact bB hown (λk hk=>by cases hk;exact PQ.far _ hgn.2)
def We (w:World)(V F:Int)(s:oA)(c:lI)(cap:Nat)(x:Pic)(e:Ending)(w':World):Prop:=∃pb pc db dc,e=Rt (Pp (sO ⟨w.heap.size+1+1+1+1,0,nO⟩))/\Cells w' (w.heap.size+1+1+1+1) [I Y V,I Y F,U s c.length cap,U (sO ⟨pb,0,nO⟩) (c.length+1) pc,U (sO ⟨db,0,nO⟩) (c.length+1) dc]/\PRow (λb=>b < w.heap.size) w' pb (x::j1 c.length nonePic)/\DRow w' db (1::j1 c.length 0)/\(w.heap.size<=pb/\w.heap.size<=db)/\(pb≠db/\pb≠w.heap.size+1+1+1+1/\db≠w.heap.size+1+1+1+1)/\bl w w'
theorem Ue (V F:Int)(s:oA)(c:lI)(cap:Nat)(x:Pic)(vs:oA)(vc:Nat)(fs:oA)(fc:Nat)(w:World)(hx:PicAt w x vs fs)(h1:x.vq.length<=vc/\vc<=maxLen)(h2:x.fq.length<=fc/\fc<=maxLen)(h60:c.length<=60):
  Calls pG 48 #[pv V F s c cap,xv x vs vc fs fc] w λe w'=>We w V F s c cap x e w':=by
 obtain⟨ti,hi,hz0,hz1,hz2⟩:=info_parts Tryz.info_pic;obtain⟨tk,hk,hx0,hx1,hx2⟩:=info_parts Tryz.info_intV;have HX:=cC;clear hx;have N0:NewAt w V F s c cap x vs vc fs fc 0 0 (w.heap.size+1+1) 1 (w.heap.size+1+1+1) 1 (((((w.alloc (Cc #[I Y V,I Y F,U s c.length cap] 24)).alloc (Cc #[Bb x.none,U vs x.vq.length vc,U fs x.fq.length fc] 28)).alloc (Cc #[Bb x.none,U vs x.vq.length vc,U fs x.fq.length fc] 28)).alloc (Cc #[I Y 1] 3)).alloc (Cc #[I Y V,I Y F,U s c.length cap,U (sO ⟨w.heap.size+1+1,0,nO⟩) 1 1,U (sO ⟨w.heap.size+1+1+1,0,nO⟩) 1 1] 106)):=by
  have B:Below w.heap.size w (((((w.alloc (Cc #[I Y V,I Y F,U s c.length cap] 24)).alloc (Cc #[Bb x.none,U vs x.vq.length vc,U fs x.fq.length fc] 28)).alloc (Cc #[Bb x.none,U vs x.vq.length vc,U fs x.fq.length fc] 28)).alloc (Cc #[I Y 1] 3)).alloc (Cc #[I Y V,I Y F,U s c.length cap,U (sO ⟨w.heap.size+1+1,0,nO⟩) 1 1,U (sO ⟨w.heap.size+1+1+1,0,nO⟩) 1 1] 106)):=am;refine⟨?_,?_,?_,⟨aa,aa,aa⟩,B,ah⟩
  ·have h:=Cells.new (((((w.alloc (Cc #[I Y V,I Y F,U s c.length cap] 24)).alloc (Cc #[Bb x.none,U vs x.vq.length vc,U fs x.fq.length fc] 28)).alloc (Cc #[Bb x.none,U vs x.vq.length vc,U fs x.fq.length fc] 28)).alloc (Cc #[I Y 1] 3))) 106 [I Y V,I Y F,U s c.length cap,U (sO ⟨w.heap.size+1+1,0,nO⟩) 1 1,U (sO ⟨w.heap.size+1+1+1,0,nO⟩) 1 1]
   rw[zA,zA,zA,zA] at h;exact h
  ·have h:=z6 (base:=w.heap.size+1+1) (e:=28) (size:=3) ((w.alloc (Cc #[I Y V,I Y F,U s c.length cap] 24)).alloc (Cc #[Bb x.none,U vs x.vq.length vc,U fs x.fq.length fc] 28)) #[Bb x.none,U vs x.vq.length vc,U fs x.fq.length fc] 1 ah ai rfl
   rw[zA,zA] at h;exact(h.kept (j3 _ _ nO) (.inr ku)).kept (j3 _ _ nO) (.inr ku)
  ·have h:=z6 (base:=w.heap.size+1+1) (e:=3) (size:=1) (((w.alloc (Cc #[I Y V,I Y F,U s c.length cap] 24)).alloc (Cc #[Bb x.none,U vs x.vq.length vc,U fs x.fq.length fc] 28)).alloc (Cc #[Bb x.none,U vs x.vq.length vc,U fs x.fq.length fc] 28)) #[I Y 1] 1 ah ai rfl
   rw[zA,zA,zA] at h;exact h.kept (j3 _ _ nO) (.inr ku)
 have P0:Cells (((((w.alloc (Cc #[I Y V,I Y F,U s c.length cap] 24)).alloc (Cc #[Bb x.none,U vs x.vq.length vc,U fs x.fq.length fc] 28)).alloc (Cc #[Bb x.none,U vs x.vq.length vc,U fs x.fq.length fc] 28)).alloc (Cc #[I Y 1] 3)).alloc (Cc #[I Y V,I Y F,U s c.length cap,U (sO ⟨w.heap.size+1+1,0,nO⟩) 1 1,U (sO ⟨w.heap.size+1+1+1,0,nO⟩) 1 1] 106)) w.heap.size [I Y V,I Y F,U s c.length cap]:=(Cells.new w _ [_,_,_]).call am;go_enter func48,ntmps48;go_upto_region 2 with fail
 generalize ((((w.alloc (Cc #[I Y V,I Y F,U s c.length cap] 24)).alloc (Cc #[Bb x.none,U vs x.vq.length vc,U fs x.fq.length fc] 28)).alloc (Cc #[Bb x.none,U vs x.vq.length vc,U fs x.fq.length fc] 28)).alloc (Cc #[I Y 1] 3)).alloc (Cc #[I Y V,I Y F,U s c.length cap,U (sO ⟨w.heap.size+1+1,0,nO⟩) 1 1,U (sO ⟨w.heap.size+1+1+1,0,nO⟩) 1 1] 106)=w5 at *;have p2:=P0.1 2 _ rfl;go_wp2;clear p2 P0;go_loopw [15] (λi wr=>∃k pb pc db dc:Nat,k<=c.length/\i=I Y k/\Hid (NewAt w V F s c cap x vs vc fs fc k k pb pc db dc wr)) (λi _=>c.length - (intOf i).toNat)
 case atStart=>exact⟨0,_,_,_,_,j2 _,rfl,N0⟩
 case round=>
  clear N0;obtain⟨k,pb,pc,db,dc,hk1,rfl,HN⟩:=hrel;by_cases hlt:k < c.length;rotate_left
  ·have n1:=lw
   have ek:=iS;subst ek;go_wp2;go_ret;have N:=HN.out;have h1':=N.pr.lt pb rfl;have h2':=N.dr.lt db rfl;exact⟨pb,pc,db,dc,rfl,N.st,FO N.pr N.lo HX.out h1 h2,SO N.dr,⟨aa,aa⟩,N.ne,N.lo⟩
  have n0:=bA;have n1:=gF;have q3:=HN.out.st.1 3 _ rfl;have S4:=Gk;have zw:=HN.out.sz;go_wp2_with (at_builtin;refine bh _ rfl _ _ 47 rfl (w.heap.size+1+1) 28 ti (Ag #[Bb false,U nO 0 0,U nO 0 0]) 3 56 underlying47 hi hz0 hz1 hz2 rfl ai _ _ _ rfl S4 (sO ⟨wr.heap.size,0,nO⟩) 1 1 npC rfl rfl (λh=>aT) ?qa2 ?qa3 ?qa4 ?qa5 ?qa6 ?_)
  case qa2=>exact iY wr 28 npC
  case qa3=>intro u hu;simp[npC] at hu;rcases hu with rfl|rfl<;>rfl
  case qa4=>unfold maxLen;omega
  case qa5=>omega
  case qa6=>rw[zA];omega
  intro v' w4 hown hgrow hat;obtain⟨g,cp,rfl,ST4,HNX⟩:=HN.out.growP hown hgrow gx;have HNX:=ag HNX;clear hown hgrow hat S4 q3 HN zw;have q3:=ST4.1 3 _ rfl;have q3f:=ST4.2.2 3;go_upto_region 5 with fail
  obtain⟨wq,ewq⟩:∃q,q=bD w4 (w.heap.size+1+1+1+1) 3 [U (sO ⟨g,0,nO⟩) (k+1+1) cp]:=⟨_,rfl⟩;have N5:=ag (HNX.out wq ewq);simp only[bD] at ewq;rw[<-ewq];clear ewq HNX q3 q3f ST4;have q4:=N5.out.st.1 4 _ rfl;have S4:=N5.out.dr.kept (j3 wq (Cc #[I Y 0] 3) nO) (.inr ku);have zw:=N5.out.sz;go_wp2_with (at_builtin;refine bh _ rfl _ _ 34 rfl (w.heap.size+1+1) 3 tk (I Y 0) 1 8 underlying34 hk hx0 hx1 hx2 rfl ai _ _ _ rfl S4 (sO ⟨wq.heap.size,0,nO⟩) 1 1 [I Y 0] rfl rfl (λh=>aT) ?qb2 ?qb3 ?qb4 ?qb5 ?qb6 ?_)
  case qb2=>exact iY wq 3 [I Y 0]
  case qb3=>intro u hu;simp at hu;rw[hu];rfl
  case qb4=>unfold maxLen;omega
  case qb5=>omega
  case qb6=>rw[zA];omega
  intro v' w6 hown hgrow hat;obtain⟨g2,cp2,rfl,ST4,HNX⟩:=N5.out.growD hown hgrow gx;have HNX:=ag HNX;clear hown hgrow hat S4 q4 N5 zw;have q4:=ST4.1 4 _ rfl;have q4f:=ST4.2.2 4;go_upto_region 6 with fail
  obtain⟨wz,ewz⟩:∃q,q=bD w6 (w.heap.size+1+1+1+1) 4 [U (sO ⟨g2,0,nO⟩) (k+1+1) cp2]:=⟨_,rfl⟩;have N6:=ag (HNX.out wz ewz);simp only[bD] at ewz;rw[<-ewz];clear ewz HNX q4 q4f ST4;go_wp2;go_roundw
  case rel=>exact⟨k+1,g,cp,g2,cp2,aa,aF,N6.out⟩
  case measure=>exact aK
theorem LI (v f:Nat)(s:oA)(c:lI)(cap:Nat)(w:World)(hv8:v<=8)(hf3:f<=3)(h60:c.length<=60):
  Calls pG 69 #[pv (v:Int) (f:Int) s c cap] w λe w'=>UE w.heap.size w' e (bM (v:Int) (f:Int) c)/\bl w w':=by
 have efp:=Hz;rw[efp];clear efp;obtain⟨ti,hi,hz0,hz1,hz2⟩:=kd;obtain⟨tk,hk,hx0,hx1,hx2⟩:=mX;have HN:=pX;have hb0:Below w.heap.size w (((w.alloc (Cc #[I Y (v:Int),I Y (f:Int),U s c.length cap] 24)).alloc (Cc #[Bb false,U nO 0 0,U nO 0 0] 28)).alloc (Cc #[Bb false,U nO 0 0,U nO 0 0] 28)):=am;have P0:=(PrAt.new w (v:Int) (f:Int) s c cap).call (w':=(((w.alloc (Cc #[I Y (v:Int),I Y (f:Int),U s c.length cap] 24)).alloc (Cc #[Bb false,U nO 0 0,U nO 0 0] 28)).alloc (Cc #[Bb false,U nO 0 0,U nO 0 0] 28))) am;have A0:=(X3.new (w.alloc (Cc #[I Y (v:Int),I Y (f:Int),U s c.length cap] 24)) 28 (Bb false) (U nO 0 0) (U nO 0 0)).call (w':=(((w.alloc (Cc #[I Y (v:Int),I Y (f:Int),U s c.length cap] 24)).alloc (Cc #[Bb false,U nO 0 0,U nO 0 0] 28)).alloc (Cc #[Bb false,U nO 0 0,U nO 0 0] 28))) am;have Z0:=X3.new ((w.alloc (Cc #[I Y (v:Int),I Y (f:Int),U s c.length cap] 24)).alloc (Cc #[Bb false,U nO 0 0,U nO 0 0] 28)) 28 (Bb false) (U nO 0 0) (U nO 0 0);have z0:w.heap.size+1+1+1<=(((w.alloc (Cc #[I Y (v:Int),I Y (f:Int),U s c.length cap] 24)).alloc (Cc #[Bb false,U nO 0 0,U nO 0 0] 28)).alloc (Cc #[Bb false,U nO 0 0,U nO 0 0] 28)).heap.size:=ah;rw[zA] at A0;rw[zA,zA] at Z0;go_enter func69,ntmps69;go_upto_region 2 with fail
 generalize (((w.alloc (Cc #[I Y (v:Int),I Y (f:Int),U s c.length cap] 24)).alloc (Cc #[Bb false,U nO 0 0,U nO 0 0] 28)).alloc (Cc #[Bb false,U nO 0 0,U nO 0 0] 28))=w1 at *;go_wp2;go_loopw [4] (λi wr=>∃(k:Nat) (vs:oA) (vc:Nat) (l:List Gc),k<=v/\i=I Y k/\PrAt wr w.heap.size (v:Int) (f:Int) s c cap/\X3 wr (w.heap.size+1) (Bb false) (U nO 0 0) (U nO 0 0)/\X3 wr (w.heap.size+1+1) (Bb false) (U vs l.length vc) (U nO 0 0)/\SRow wr (w.heap.size+1+1+1) (U vs l.length vc) l/\Hid (l.map Gc.g=j1 k dm)/\bl w wr/\w.heap.size+1+1+1<=wr.heap.size) (λi _=>v - (intOf i).toNat)
 case atStart=>exact⟨0,nO,0,[],j2 _,rfl,P0,A0,Z0,SRow.nil _ _,rfl,hb0,z0⟩
 case round=>
  obtain⟨k,vs,vc,l,hk1,rfl,PR,AR,ZR,SR,HL,BR,zr⟩:=hrel;clear P0 A0 Z0 hb0 z0;obtain⟨⟨p0,p1,p2⟩,pz⟩:=id PR;have LL:Hid (l.length=k):=MQ;by_cases hlt:k < v
  ·have n0:=dk
   have n1:(k:Int) < (v:Int):=aa;go_wp2_with fail;refine(HN.out _).mono ?_;rintro e w2 ⟨rfl,hb2⟩;clear p0 p1 p2 pz;have hb3:=He;have G3:GuAt (w2.alloc (Cc #[Bb true,Bb true,I Y 0,I Y 0,Bb false,Bb false,U nO 0 0] 91)) w2.heap.size 0 dm nO 0:=GuAt.new w2 dm nO 0;have hbz:=sj;go_upto_region 7 with fail
   generalize w2.alloc (Cc #[Bb true,Bb true,I Y 0,I Y 0,Bb false,Bb false,U nO 0 0] 91)=w3 at *;generalize w2.heap.size=gb at *;have P3:=PR.call hbz;have A3:=AR.call hbz;have Z3:=ZR.call hbz;have S3:=SR.call hbz;have B3:=BR.trans (hbz.mono BR.size);have z3:w.heap.size+1+1+1<=w3.heap.size:=lT zr hbz.size;clear PR AR ZR SR BR zr hbz hb2 hb3;obtain⟨⟨y0,y1,y2⟩,yz,yf⟩:=id Z3;obtain⟨⟨g0,g1,g2,g3,g4,g5,g6⟩,gz⟩:=id G3;simp only[dm,List.length_nil,j0] at g0 g1 g2 g3 g4 g5 g6;have S4:=S3.call (w':=w3.alloc (Cc #[Bb true,Bb true,I Y 0,I Y 0,Bb false,Bb false,U nO 0 0] 91)) am;go_wp2_with (at_builtin;refine bh _ rfl _ _ 25 rfl (w.heap.size+1+1+1) 91 ti (Ag #[Bb false,Bb false,I Y 0,I Y 0,Bb false,Bb false,U nO 0 0]) 7 64 underlying25 hi hz0 hz1 hz2 rfl ai _ _ _ rfl S4.1 (sO ⟨w3.heap.size,0,nO⟩) 1 1 (br ⟨dm,nO,0⟩) rfl rfl (λh=>aT) ?qa2 (dE _) ?qa4 ?qa5 ?qa6 ?_);(try (case qa2=>exact nV w3 ⟨dm,nO,0⟩ #[Bb true,Bb true,I Y 0,I Y 0,Bb false,Bb false,U nO 0 0] _ rfl))
   case qa4=>unfold maxLen;have:=LL.out;omega
   case qa5=>have:=LL.out;omega
   (try (case qa6=>first|omega|(rw[zA];omega)|(simp;omega)|simp));intro v' w4 hown hgrow hat;have S5:=S4.grown (x:=⟨dm,nO,0⟩) ⟨.inl rfl,lR _,by unfold maxLen;simp⟩ hown hgrow gx;have hb4:Below (w.heap.size+1+1+1) w3 w4:=((bR _ w3).alloc z3 _).grown hgrow ap (λk hk=>(aR S4.1 hk).2);obtain⟨vs',vc',rfl,-,-,-⟩:=S5.in;clear hown hgrow hat S4 S3 y0 y1 y2 yz yf g0 g1 g2 g3 g4 g5 g6 gz G3;have P4:PrAt w4 w.heap.size (v:Int) (f:Int) s c cap:=P3.low hb4 aa;have A4:X3 w4 (w.heap.size+1) (Bb false) (U nO 0 0) (U nO 0 0):=A3.same (hb4.block _ aa) hb4.size;have Z4:X3 w4 (w.heap.size+1+1) (Bb false) (U vs l.length vc) (U nO 0 0):=Z3.same (hb4.block _ aa) hb4.size;have B4:=B3.trans (hb4.mono aa);have z4:w.heap.size+1+1+1<=w4.heap.size:=lT z3 hb4.size;clear P3 A3 Z3 B3 z3 hb4;obtain⟨⟨y0,y1,y2⟩,yz,yf⟩:=id Z4;have yf1:=yf 1;clear yf;go_wp2;go_roundw
   case rel=>exact⟨k+1,vs',vc',l++[⟨dm,nO,0⟩],aa,aF,P4.far aw _,A4.far aw _,by rw[q8];exact Z4.put1 _,S5.old (uA aw _).1 (uA aw _).2 (B:=w.heap.size+1+1+1),DV,B4.setCell aw _,uv⟩
   case measure=>exact aK
  ·have n1:¬(k:Int) < (v:Int):=by omega
   have ek:k=v:=aa;obtain⟨vs0,vc0,e0,hk0,hk00,GV0⟩:=SR.in;cases e0;have LV:Hid (l.length=v):=by show _=_;rw[LL.out,ek]
   rw[HL.out,ek] at GV0;have GV:GsIn (λb=>w.heap.size+1+1+1<=b/\b < wr.heap.size) wr vs (j1 v dm):=GV0.mono λb h1 h2=>⟨h1,h2⟩;have HVC:Hid (l.length<=vc/\vc<=maxLen):=⟨hk0,hk00⟩;clear GV0 SR LL HL hk0 hk00;have zn:w.heap.size+1+1+1<=wr.heap.size:=zr;generalize hN:wr.heap.size=N at *;have HNN:=ag hN;clear hN;go_wp2;clear p0 p1 p2 pz;go_loopw [6] (λi wx=>∃(k:Nat) (fs:oA) (fc:Nat) (L:List Rw),k<=c.length/\i=I Y k/\PrAt wx w.heap.size (v:Int) (f:Int) s c cap/\X3 wx (w.heap.size+1) (Bb false) (U nO 0 0) (U nO 0 0)/\X3 wx (w.heap.size+1+1) (Bb false) (U vs l.length vc) (U fs L.length fc)/\FRow wx N (U fs L.length fc) L/\Hid (L.map Rw.l=j1 k (j1 f noneG))/\GsIn (λb=>w.heap.size+1+1+1<=b/\b < N) wx vs (j1 v dm)/\bl w wx/\N<=wx.heap.size) (λi _=>c.length - (intOf i).toNat)
   case atStart=>exact⟨0,nO,0,[],j2 _,rfl,PR,AR,ZR,FRow.nil _ _,rfl,GV,BR,Du⟩
   case round=>
    clear PR AR ZR GV BR zr HNN;obtain⟨k2,fs,fc,L,hk2,rfl,PR,AR,ZR,FR,HL,GV,BR,zr⟩:=hrel;generalize wr=w6 at *;clear wr;have LL:Hid (L.length=k2):=MQ;obtain⟨⟨p0,p1,p2⟩,pz⟩:=id PR;by_cases hlt2:k2 < c.length
    ·have n2:(k2:Int) < (c.length:Int):=by omega
     go_wp2;clear p0 p1 p2 pz;go_loopw [7,8] (λr j wo=>∃(m:Nat) (rs:oA) (rc:Nat) (lr:List Gc),m<=f/\r=U rs lr.length rc/\j=I Y m/\bl w6 wo/\SRow wo w6.heap.size (U rs lr.length rc) lr/\Hid (lr.map Gc.g=j1 m noneG)) (λ_ j _=>f - (intOf j).toNat)
     case atStart=>exact⟨0,nO,0,[],j2 _,rfl,rfl,bR _ _,SRow.nil _ _,rfl⟩
     case round=>
      obtain⟨m,rs,rc,lr,hm,rfl,rfl,hbo,SR,HM⟩:=hrel;have LM:Hid (lr.length=m):=by show _=_;have:=congrArg List.length HM.out;simpa using this
      obtain⟨⟨p0,p1,p2⟩,pz⟩:=id (PR.call hbo);by_cases hltm:m < f
      ·have m1:(m:Int) < (f:Int):=by omega
       go_wp2_with fail;refine(HN.out _).mono ?_;rintro e w7 ⟨rfl,hb7⟩;clear p0 p1 p2 pz;have S7:=(SR.call hb7).call (w':=w7.alloc (Cc #[Bb false,Bb true,I Y 0,I Y 0,Bb false,Bb false,U nO 0 0] 91)) am;have hb67:=hbo.trans (hb7.mono hbo.size);have z67:w6.heap.size<=w7.heap.size:=hb67.size;go_wp2_with (at_builtin;refine bh _ rfl _ _ 25 rfl w6.heap.size 91 ti (Ag #[Bb false,Bb false,I Y 0,I Y 0,Bb false,Bb false,U nO 0 0]) 7 64 underlying25 hi hz0 hz1 hz2 rfl ai _ _ _ rfl S7.1 (sO ⟨w7.heap.size,0,nO⟩) 1 1 (br ⟨noneG,nO,0⟩) rfl rfl (λh=>aT) ?qb2 (dE _) ?qb4 ?qb5 ?qb6 ?_);(try (case qb2=>exact nV w7 ⟨noneG,nO,0⟩ #[Bb false,Bb true,I Y 0,I Y 0,Bb false,Bb false,U nO 0 0] _ rfl))
       case qb4=>unfold maxLen;have:=LM.out;omega
       case qb5=>have:=LM.out;omega
       (try (case qb6=>first|omega|(rw[zA];omega)|(simp;omega)|simp));intro v' w8 hown hgrow hat;have S8:=S7.grown (x:=⟨noneG,nO,0⟩) ⟨.inl rfl,lR _,by unfold maxLen;simp⟩ hown hgrow gx;have hb8:bl w6 w8:=(hb67.alloc z67 _).grown hgrow ap (λk hk=>(aR S7.1 hk).2);obtain⟨rs',rc',rfl,-,-,-⟩:=S8.in;clear hown hgrow hat S7 SR hb7 hbo hb67;go_wp2;go_roundw
       case rel=>exact⟨m+1,rs',rc',lr++[⟨noneG,nO,0⟩],aa,oD,aF,hb8,S8,by show _=_;rw[q9,HM.out,q7];rfl⟩
       case measure=>exact aK
      ·have m1:¬(m:Int) < (f:Int):=by omega
       have em:m=f:=aa;obtain⟨rs0,rc0,e0,hk0,hk00,GR⟩:=SR.in;cases e0;rw[HM.out,em] at GR;have HLF:Hid (lr.length=(j1 f noneG).length):=by show _=_;rw[LM.out,em,j7]
       have A9:=AR.call hbo;have Z9:=ZR.call hbo;have F9:=FR.call hbo;have P9:=PR.call hbo;have V9:=GV.call hbo;have B9:=BR.trans (hbo.mono BR.size);have z9:=y9;have RX:uh (λb=>N<=b/\(Value.slice fs L.length fc).ownBlock≠sO b) wr ⟨rs,rc,j1 f noneG⟩:=⟨GR.mono λb h1 _=>⟨lT zr h1,λe=>by have:=(aR FR.1 e).1;omega⟩,by rw[HLF.out] at hk0;exact hk0,hk00⟩
       clear AR ZR FR PR GV BR SR GR hbo zr hk0 hk00 em LM HM p0 p1 p2 pz;generalize wr=w9 at *;clear wr;obtain⟨⟨y0,y1,y2⟩,yz,yf⟩:=id Z9;obtain⟨⟨p0,p1,p2⟩,pz⟩:=id P9;have F10:=F9.call (w':=w9.alloc (Cc #[U rs lr.length rc] 25)) am;have R10:uh (λb=>N<=b/\(Value.slice fs L.length fc).ownBlock≠sO b) (w9.alloc (Cc #[U rs lr.length rc] 25)) ⟨rs,rc,j1 f noneG⟩:=⟨RX.1.call am,RX.2⟩;go_wp2_with (at_builtin;refine bh _ rfl _ _ 26 rfl N 25 tk (U nO 0 0) 1 24 underlying26 hk hx0 hx1 hx2 rfl ai _ _ _ rfl F10.1 (sO ⟨w9.heap.size,0,nO⟩) 1 1 [U rs lr.length rc] rfl rfl (λh=>aT) ?qc2 oC ?qc4 ?qc5 ?qc6 ?_);(try (case qc2=>exact BI w9 _ _))
       case qc4=>unfold maxLen;have:=LL.out;omega
       case qc5=>have:=LL.out;omega
       (try (case qc6=>first|omega|(rw[zA];omega)|(simp;omega)|simp));intro v' w10 hown hgrow hat;rw[HLF.out] at hown;have F11:=F10.grown (x:=⟨rs,rc,j1 f noneG⟩) R10 hown hgrow gx;have hb10:=G8;obtain⟨fs',fc',rfl,-,-,-⟩:=F11.rows;clear hown hgrow hat F10 F9 R10 RX y0 y1 y2 yz yf p0 p1 p2 pz;have P4:PrAt w10 w.heap.size (v:Int) (f:Int) s c cap:=P9.low hb10 aa;have A4:X3 w10 (w.heap.size+1) (Bb false) (U nO 0 0) (U nO 0 0):=A9.same (hb10.block _ aa) hb10.size;have Z4:X3 w10 (w.heap.size+1+1) (Bb false) (U vs l.length vc) (U fs L.length fc):=Z9.same (hb10.block _ aa) hb10.size;have V4:GsIn (λb=>w.heap.size+1+1+1<=b/\b < N) w10 vs (j1 v dm):=V9.same (λb hS _=>hb10.block b hS.2) hb10.size;have B4:=B9.trans (hb10.mono aa);have z4:=Ao;clear P9 A9 Z9 V9 B9 z9 hb10;obtain⟨⟨y0,y1,y2⟩,yz,yf⟩:=id Z4;have yf2:=yf 2;clear yf;go_wp2;go_roundw
       case rel=>exact⟨k2+1,fs',fc',L++[⟨rs,rc,j1 f noneG⟩],aa,aF,P4.far aw _,A4.far aw _,by rw[q8];exact Z4.put2 _,F11.old (uA aw _).1 (uA aw _).2 (B:=N),DV,V4.same (λb hS _=>hSe _ _ _ _ aw) bH,B4.setCell aw _,uv⟩
       case measure=>exact aK
    ·have n2:¬(k2:Int) < (c.length:Int):=by omega
     have ek2:k2=c.length:=aa;have ELL:Hid (L.length=c.length):=by show _=_;rw[LL.out,ek2]
     have HFC:Hid (L.length<=fc/\fc<=maxLen):=by
      obtain⟨fs0,fc0,e0,hk0,hk00,-⟩:=FR.rows;cases e0;exact⟨hk0,hk00⟩
     have hch:∀b,b≠w.heap.size+1->(((w6.setCell ⟨w.heap.size+1,0,nO⟩ (Bb false)).setCell ⟨w.heap.size+1,1,nO⟩ (U vs l.length vc)).setCell ⟨w.heap.size+1,2,nO⟩ (U fs L.length fc)).heap[b]? =w6.heap[b]? :=λb hb=>oX;have hcz:w6.heap.size<=(((w6.setCell ⟨w.heap.size+1,0,nO⟩ (Bb false)).setCell ⟨w.heap.size+1,1,nO⟩ (U vs l.length vc)).setCell ⟨w.heap.size+1,2,nO⟩ (U fs L.length fc)).heap.size:=bH;have FX:=FR.old (w':=(((w6.setCell ⟨w.heap.size+1,0,nO⟩ (Bb false)).setCell ⟨w.heap.size+1,1,nO⟩ (U vs l.length vc)).setCell ⟨w.heap.size+1,2,nO⟩ (U fs L.length fc))) (λb hb=>hch b aa) hcz;have GX:=GV.same (w':=(((w6.setCell ⟨w.heap.size+1,0,nO⟩ (Bb false)).setCell ⟨w.heap.size+1,1,nO⟩ (U vs l.length vc)).setCell ⟨w.heap.size+1,2,nO⟩ (U fs L.length fc))) (λb hS _=>hch b aa) hcz;have BX:bl w (((w6.setCell ⟨w.heap.size+1,0,nO⟩ (Bb false)).setCell ⟨w.heap.size+1,1,nO⟩ (U vs l.length vc)).setCell ⟨w.heap.size+1,2,nO⟩ (U fs L.length fc)):=((BR.setCell ah _).setCell ah _).setCell ah _;have HFX:Hid (∀wz:World,(∀b,w.heap.size<=b->b < (((w6.setCell ⟨w.heap.size+1,0,nO⟩ (Bb false)).setCell ⟨w.heap.size+1,1,nO⟩ (U vs l.length vc)).setCell ⟨w.heap.size+1,2,nO⟩ (U fs L.length fc)).heap.size->wz.heap[b]? =(((w6.setCell ⟨w.heap.size+1,0,nO⟩ (Bb false)).setCell ⟨w.heap.size+1,1,nO⟩ (U vs l.length vc)).setCell ⟨w.heap.size+1,2,nO⟩ (U fs L.length fc)).heap[b]?)->(((w6.setCell ⟨w.heap.size+1,0,nO⟩ (Bb false)).setCell ⟨w.heap.size+1,1,nO⟩ (U vs l.length vc)).setCell ⟨w.heap.size+1,2,nO⟩ (U fs L.length fc)).heap.size<=wz.heap.size->GsAt wz vs (j1 v dm)/\RowsAt wz fs (j1 c.length (j1 f noneG))):=λwz hs hz=>by
      obtain⟨fs0,fc0,e0,hk0,hk00,RW0⟩:=wC;cases e0;rw[HL.out,ek2] at RW0;exact ym
     obtain⟨⟨y0,y1,y2⟩,yz,yf⟩:=id ZR;obtain⟨⟨a0,a1,a2⟩,az,af⟩:=id AR;have f0:=af 0;have f1:=af 1;have f2:=af 2;clear af yf hch hcz FX GX;go_wp2;refine bodyPost_ret (v:=Ag #[Bb false,U vs l.length vc,U fs L.length fc]) (by simp[results,results69,go_sem,a0,a1,a2]) rfl ⟨⟨vs,vc,fs,fc,?_,(λwz hs hz=>HFX.out wz hs hz),?_,?_⟩,BX⟩
     ·rw[LV.out,ELL.out]
      simp only[j7]
     ·simp only[j7]
      rw[<-LV.out];exact HVC.out
     ·simp only[j7]
      rw[<-ELL.out];exact HFC.out
end
section
open Go.RowKit
abbrev Ee (w:World)(V F:Int)(s:oA)(c:lI)(cap:Nat)(g:Gs)(ss:oA)(gc:Nat)(h:Gs)(st:oA)(hc:Nat):World:=
 ((w.alloc (Cc #[I Y V,I Y F,U s c.length cap] 24)).alloc (Cc #[Bb g.n,Bb g.sp.n,I Y g.sp.lo,I Y g.sp.hi,Bb g.t,Bb g.f,U ss g.s.length gc] 91)).alloc (Cc #[Bb h.n,Bb h.sp.n,I Y h.sp.lo,I Y h.sp.hi,Bb h.t,Bb h.f,U st h.s.length hc] 91)
theorem M8 (w:World)(V F:Int)(s:oA)(c:lI)(cap:Nat)(g:Gs)(ss:oA)(gc:Nat)(h:Gs)(st:oA)(hc:Nat):
  GuAt (Ee w V F s c cap g ss gc h st hc) (w.heap.size+1) 0 g ss gc/\GuAt (Ee w V F s c cap g ss gc h st hc) (w.heap.size+1+1) 0 h st hc/\bl w (Ee w V F s c cap g ss gc h st hc):=by
 refine⟨?_,?_,am⟩
 ·have:=GuAt.new (w.alloc (Cc #[I Y V,I Y F,U s c.length cap] 24)) g ss gc
  rw[zA] at this;exact this.alloc _
 ·have:=GuAt.new ((w.alloc (Cc #[I Y V,I Y F,U s c.length cap] 24)).alloc (Cc #[Bb g.n,Bb g.sp.n,I Y g.sp.lo,I Y g.sp.hi,Bb g.t,Bb g.f,U ss g.s.length gc] 91)) h st hc
  simp only[zA] at this;exact this

theorem Ej {a c:Bool}{b d:Int}(h:a=c)(h':b=d):Ending.returned (Tu #[Bb a,I Y b])=Rt (Tu #[Bb c,I Y d]):=by rw[h,h']
theorem gJ (a b:Bool):(a=true/\b=false)\/a=false\/(a=true/\b=true):=by cases a<;>cases b<;>simp

theorem TV {s t:Sp}(hs:s.Ok)(ht:t.Ok):@decide _ ((aM s t).dq s)=fI s t:=by
 obtain⟨n,lo,hi⟩:=s;obtain⟨n',lo',hi'⟩:=t;obtain⟨-,-,hz,hl⟩:=hs;obtain⟨-,-,hz',hl'⟩:=ht;cases n with
 |true=>
  obtain⟨h1,h2⟩:=hz rfl;simp only at h1 h2;subst h1 h2;rfl
 |false=>
  cases n' with
  |true=>
   have e0:aM ⟨false,lo,hi⟩ ⟨true,lo',hi'⟩=⟨true,0,0⟩:=rfl;rw[e0];simp[fI,Sp.has]
  |false=>
   simp only at hl hl';rw[Bool.eq_iff_iff,@decide_eq_true_eq _ (Sp.dq _ _)];unfold aM fI Sp.has;simp only[Bool.false_or,Bool.not_false,Bool.true_and,decide_eq_true_eq,Bool.and_eq_true];constructor
   ·intro h
    split at h
    ·cases h
    ·simp only[Sp.mk.injEq,true_and] at h
     omega
   ·intro h
    rw[if_neg aa];simp only[Sp.mk.injEq,true_and];omega

theorem LW (V F:Int)(s:oA)(c:lI)(cap:Nat)(g:Gs)(ss:oA)(gc:Nat)(h:Gs)(st:oA)(hc:Nat)(w:World)
  (hcd:CodeAt w s c)(hs:IntsAt w ss g.s)(h1:g.s.length<=gc)(h2:gc<=maxLen)(ht:IntsAt w st h.s)(h3:h.s.length<=hc)(h4:hc<=maxLen)(hck:ba V F c [g,h]≠0):
  Calls pG 161 #[pv V F s c cap,gv g ss gc,gv h st hc] w λe w'=>e=Rt (Tu #[Bb false,I Y (ba V F c [g,h])])/\bl w w':=by
 obtain⟨G0,H0,B0⟩:=M8 w V F s c cap g ss gc h st hc;have I0:=GT;have J0:=Ho;have L0:=Kj;simp only[zA] at L0;have HC:=Hi;have hne:(ba V F c [g,h]!=0)=true:=by simpa using hck
 generalize ba V F c [g,h]=ce at HC hne |-;clear hck hcd hs ht I0 J0 L0 G0 H0;go_enter func161,ntmps161;go_wp2_with fail;refine HC.out.mono ?_;rintro e w1 ⟨rfl,hb1⟩;go_wp2
 go_ret2
 exact yT

theorem fV {p:Prop}(h:p:=by
 rintro e w2 ⟨rfl,hb2⟩;rw[vP];have G2:=G1.call hb2;have H2:=H1.call hb2;have B2:=gH;clear hb2 G1 H1 B1 I1 J1 g0 g1 g2 g3 g4 g5 g6 gz k0 k1 k2 k3 k4 k5 k6 kz;obtain⟨⟨g0,g1,g2,g3,g4,g5,g6⟩,gz⟩:=id G2;obtain⟨⟨k0,k1,k2,k3,k4,k5,k6⟩,kz⟩:=id H2;simp only[Nat.zero_add] at g0 g1 g2 g3 g4 g5 g6 k0 k1 k2 k3 k4 k5 k6;generalize hA:(sl.all λx=>h'.contains x)=al at *;have HA:=ag hA;clear hA;cases al with
 |false=>
  go_wp2
  go_ret2
  exact⟨Ej (by rw[HR.out];simp) rfl,B2⟩
 |true=>
  go_wp2_with fail;refine(HW.out _).mono ?_;rintro e w3 ⟨rfl,hb3⟩;go_wp2
  go_ret2
  exact⟨Ej (by rw[HR.out];simp) rfl,B2.trans (hb3.mono B2.size)⟩):p:=h
theorem Az (V F:Int)(s:oA)(c:lI)(cap:Nat)(g:Gs)(ss:oA)(gc:Nat)(h:Gs)(st:oA)(hc:Nat)(w:World)
  (hcd:CodeAt w s c)(hs:IntsAt w ss g.s)(h1:g.s.length<=gc)(h2:gc<=maxLen)(ht:IntsAt w st h.s)(h3:h.s.length<=hc)(h4:hc<=maxLen)(hck:ba V F c [g,h]=0):
  Calls pG 161 #[pv V F s c cap,gv g ss gc,gv h st hc] w λe w'=>e=Rt (Tu #[Bb (dp g h),I Y 0])/\bl w w':=by
 obtain⟨G0,H0,B0⟩:=M8 w V F s c cap g ss gc h st hc;have I0:=GT;have J0:=Ho;have L0:=Kj;simp only[zA] at L0;have HC:=Hi;obtain⟨hos,hot⟩:=ckSps_ok.1 (fC hck);have hW:=λw=>Pc g.sp h.sp w;rw[fC hck,show (decide ((0:Int)=0)&&@decide _ ((aM g.sp h.sp).dq g.sp))=fI g.sp h.sp by rw[TV hos hot];rfl] at hW;have HW:=ag hW;have hgl:g.s.length<=9223372036854775807:=by unfold maxLen at h2;omega
 have hlt:h.s.length<=9223372036854775807:=by unfold maxLen at h4;omega
 have HR:Hid (dp g h=(!(g.n&& !h.n)&&(!(g.t&& !h.t)&&(!(g.f&& !h.f)&&(fI g.sp h.sp&&g.s.all λx=>h.s.contains x))))):=rfl;generalize dp g h=res at HR |-;generalize fI g.sp h.sp=si at HR HW;rw[hck] at HC;clear hck hcd hs ht L0 hW hos hot;go_enter func161,ntmps161;go_wp2_with fail;refine HC.out.mono ?_;rintro e w1 ⟨rfl,hb1⟩;have G1:=eT;have H1:=fE;have I1:=gh;have J1:=gd;have B1:=eX;clear hb1 G0 H0 I0 J0 B0 HC;obtain⟨⟨g0,g1,g2,g3,g4,g5,g6⟩,gz⟩:=id G1;obtain⟨⟨k0,k1,k2,k3,k4,k5,k6⟩,kz⟩:=id H1;simp only[j0] at g0 g1 g2 g3 g4 g5 g6 k0 k1 k2 k3 k4 k5 k6;obtain⟨n,sp,t,f,sl⟩:=g;obtain⟨n',sp',t',f',h'⟩:=h;simp only at hgl hlt;rcases gJ n n' with⟨rfl,rfl⟩|rfl|⟨rfl,rfl⟩
 ·go_wp2
  go_ret2
  exact iZ
 ·rcases gJ t t' with⟨rfl,rfl⟩|rfl|⟨rfl,rfl⟩
  ·go_wp2
   go_ret2
   exact iZ
  ·rcases gJ f f' with⟨rfl,rfl⟩|rfl|⟨rfl,rfl⟩
   ·go_wp2
    go_ret2
    exact iZ
   ·go_wp2_with fail
    refine(cP (w.heap.size+1+1) (λx=> !h'.contains x) ss gc sl _ aa I1 λx wx hbx=>g9 x _ ⟨n',sp',t',f',h'⟩ st hc wx (H1.call hbx) (J1.call hbx) dn).mono ?_;exact fV
   ·go_wp2_with fail
    refine(cP (w.heap.size+1+1) (λx=> !h'.contains x) ss gc sl _ aa I1 λx wx hbx=>g9 x _ ⟨n',sp',t',true,h'⟩ st hc wx (H1.call hbx) (J1.call hbx) dn).mono ?_;exact fV
  ·rcases gJ f f' with⟨rfl,rfl⟩|rfl|⟨rfl,rfl⟩
   ·go_wp2
    go_ret2
    exact iZ
   ·go_wp2_with fail
    refine(cP (w.heap.size+1+1) (λx=> !h'.contains x) ss gc sl _ aa I1 λx wx hbx=>g9 x _ ⟨n',sp',true,f',h'⟩ st hc wx (H1.call hbx) (J1.call hbx) dn).mono ?_;exact fV
   ·go_wp2_with fail
    refine(cP (w.heap.size+1+1) (λx=> !h'.contains x) ss gc sl _ aa I1 λx wx hbx=>g9 x _ ⟨n',sp',true,true,h'⟩ st hc wx (H1.call hbx) (J1.call hbx) dn).mono ?_;exact fV
 ·rcases gJ t t' with⟨rfl,rfl⟩|rfl|⟨rfl,rfl⟩
  ·go_wp2
   go_ret2
   exact iZ
  ·rcases gJ f f' with⟨rfl,rfl⟩|rfl|⟨rfl,rfl⟩
   ·go_wp2
    go_ret2
    exact iZ
   ·go_wp2_with fail
    refine(cP (w.heap.size+1+1) (λx=> !h'.contains x) ss gc sl _ aa I1 λx wx hbx=>g9 x _ ⟨true,sp',t',f',h'⟩ st hc wx (H1.call hbx) (J1.call hbx) dn).mono ?_;exact fV
   ·go_wp2_with fail
    refine(cP (w.heap.size+1+1) (λx=> !h'.contains x) ss gc sl _ aa I1 λx wx hbx=>g9 x _ ⟨true,sp',t',true,h'⟩ st hc wx (H1.call hbx) (J1.call hbx) dn).mono ?_;exact fV
  ·rcases gJ f f' with⟨rfl,rfl⟩|rfl|⟨rfl,rfl⟩
   ·go_wp2
    go_ret2
    exact iZ
   ·go_wp2_with fail
    refine(cP (w.heap.size+1+1) (λx=> !h'.contains x) ss gc sl _ aa I1 λx wx hbx=>g9 x _ ⟨true,sp',true,f',h'⟩ st hc wx (H1.call hbx) (J1.call hbx) dn).mono ?_;exact fV
   ·go_wp2_with fail
    refine(cP (w.heap.size+1+1) (λx=> !h'.contains x) ss gc sl _ aa I1 λx wx hbx=>g9 x _ ⟨true,sp',true,true,h'⟩ st hc wx (H1.call hbx) (J1.call hbx) dn).mono ?_;exact fV
theorem Ph {V F:Int}{c:lI}{g:Gs}(hk:ba V F c [g]=0):au V F c=0/\aE c g=0:=by
 unfold ba at hk;by_cases h0:au V F c=0
 ·rw[if_pos h0] at hk
  have e:b9 c [g]=if aE c g=0 then 0 else aE c g:=rfl
  rw[e] at hk;by_cases hg:aE c g=0
  ·exact⟨h0,hg⟩
  ·rw[if_neg hg] at hk;exact absurd hk hg
 ·rw[if_neg h0] at hk;exact absurd hk h0
theorem lF {c:lI}{g:Gs}(h:aE c g=0):cE g.sp=0:=by
 unfold aE at h;split at h
 ·assumption
 ·rename_i hn;exact Decidable.not_not.1 hn
theorem WB (w:World)(V F:Int)(s:oA)(c:lI)(cap:Nat)(g:Gs)(ss:oA)(gc:Nat):GuAt (pgW w V F s c cap g ss gc) (w.heap.size+1) 0 g ss gc/\bl w (pgW w V F s c cap g ss gc):=by
 refine⟨?_,am⟩;have:=GuAt.new (w.alloc (Cc #[I Y V,I Y F,U s c.length cap] 24)) g ss gc;rw[zA] at this;exact this

theorem Rq (V F:Int)(s:oA)(c:lI)(cap:Nat)(g:Gs)(ss:oA)(gc:Nat)(w:World)(hcd:CodeAt w s c)(hs:IntsAt w ss g.s)(h1:g.s.length<=gc)(h2:gc<=maxLen)(hck:ba V F c [g]=0):
  Calls pG 160 #[pv V F s c cap,gv g ss gc] w λe w'=>e=Rt (Tu #[Bb (cd g),Bb (cQ g),I Y 0])/\bl w w':=by
 obtain⟨G0,B0⟩:=WB w V F s c cap g ss gc;have I0:IntsAt (pgW w V F s c cap g ss gc) ss g.s:=hs.below B0 (lR _);have L0:=GsAt.new1 (pgW w V F s c cap g ss gc) g ss gc I0 h1 h2;simp only[zA] at L0;have HC:=ag (eR V F s c cap (sO ⟨w.heap.size+1+1,0,nO⟩) [g] 1 _ ((hcd.below B0 (lR _)).alloc _) L0 ah);have HT:=ag (λw=>AH g ss gc w (lF (Ph hck).2));rw[hck] at HC;generalize cd g=y at HT |-;generalize cQ g=n at HT |-;clear hck hcd hs I0 L0;go_enter func160,ntmps160;go_wp2_with fail;refine HC.out.mono ?_;rintro e w1 ⟨rfl,hb1⟩;have G1:=eT;have B1:=eX;clear hb1 HC G0 B0;obtain⟨⟨g0,g1,g2,g3,g4,g5,g6⟩,gz⟩:=id G1;simp only[j0] at g0 g1 g2 g3 g4 g5 g6;go_wp2_with fail;refine(HT.out _).mono ?_;rintro e w2 ⟨rfl,hb2⟩;go_wp2
 go_ret3
 exact⟨rfl,B1.trans (hb2.mono B1.size)⟩
theorem GuAt.grown {w w':World}{vb:Option Nat}{b o:Nat}{g:Gs}{ss:oA}{cap:Nat}(hg:w.grownBy w' vb)(h:GuAt w b o g ss cap)(hne:sO b≠vb):GuAt w' b o g ss cap:=by
 obtain⟨⟨h0,h1,h2,h3,h4,h5,h6⟩,hz⟩:=h;have hk:=hg.block b hz hne;have c:∀j,w'.cell? ⟨b,j,nO⟩=w.cell? ⟨b,j,nO⟩:=λj=>z7 (a:=⟨b,j,nO⟩) hk;exact⟨⟨by rw[c];exact h0,by rw[c];exact h1,by rw[c];exact h2,by rw[c];exact h3,by rw[c];exact h4,by rw[c];exact h5,by rw[c];exact h6⟩,lL hz hg.size⟩
theorem Fr7.grown {w w':World}{vb:Option Nat}{b:Nat}(hg:w.grownBy w' vb)(h:Fr7 w b)(hne:sO b≠vb):Fr7 w' b:=by
 have hk:=hg.block b h.2 hne;exact⟨λj=>by rw[z8 (a:=⟨b,j,nO⟩) hk];exact h.1 j,lL h.2 hg.size⟩
theorem GuAt.setFar {w:World}{b b' o j:Nat}{g:Gs}{ss:oA}{cap:Nat}{v:Value}(h:GuAt w b o g ss cap)(hne:b≠b'):GuAt (w.setCell ⟨b',j,nO⟩ v) b o g ss cap:=by
 obtain⟨⟨h0,h1,h2,h3,h4,h5,h6⟩,hz⟩:=h;have c:∀i,(w.setCell ⟨b',j,nO⟩ v).cell? ⟨b,i,nO⟩=w.cell? ⟨b,i,nO⟩:=λi=>World.cell?_setCell_far _ ⟨b',j,nO⟩ ⟨b,i,nO⟩ _ (λe=>hne e.symm);exact⟨⟨by rw[c];exact h0,by rw[c];exact h1,by rw[c];exact h2,by rw[c];exact h3,by rw[c];exact h4,by rw[c];exact h5,by rw[c];exact h6⟩,fr⟩
theorem GuAt.setS {w:World}{b:Nat}{g:Gs}{ss ss':oA}{cap cap':Nat}{s':List Int}(h:GuAt w b 0 g ss cap):GuAt (w.setCell ⟨b,6,nO⟩ (U ss' s'.length cap')) b 0 ⟨g.n,g.sp,g.t,g.f,s'⟩ ss' cap':=by
 obtain⟨⟨h0,h1,h2,h3,h4,h5,h6⟩,hz⟩:=h;simp only[j0] at h0 h1 h2 h3 h4 h5 h6;refine⟨?_,fr⟩;simp[go_sem,h0,h1,h2,h3,h4,h5,h6]
theorem Fr7.set {w:World}{b b' j:Nat}{v:Value}(h:Fr7 w b):Fr7 (w.setCell ⟨b',j,nO⟩ v) b:=⟨λi=>by simp[go_sem,h.1 i],by simpa using h.2⟩
theorem o8 {w:World}{B n b j z:Nat}{e:TypeId}{v u:Value}{xs:List Value}(h:w.ownsRow B e z v n xs)(hb:b < B):(w.setCell ⟨b,j,nO⟩ u).ownsRow B e z v n xs:=
 ⟨h.1,h.2.imp id λ⟨g,cap,cur,r1,r2,r3,r4⟩=>⟨g,cap,cur,r1,r2,by rw[hSe _ _ _ _ (by show g≠b;omega)];exact r3,r4⟩⟩

def bI (a b:List Int)(k:Nat):List Int:=((List.range k).map λn:Nat=>(n:Int)).filter λx=>a.contains x||b.contains x
theorem Mb (a b:List Int)(k:Nat):bI a b (k+1)=bI a b k++(if (a.contains (k:Int)||b.contains (k:Int))=true then [(k:Int)] else []):=by
 unfold bI;rw[List.range_succ,q9,List.filter_append];congr 1;by_cases h:(a.contains (k:Int)||b.contains (k:Int))=true
 ·simp only[x0,x3,x4,h,if_true,x5]
 ·simp only[x0,x3,x4,h,if_false,x5,Bool.false_eq_true]
theorem Pr (a b:List Int)(k:Nat):(bI a b k).length<=k:=by
 unfold bI;exact lT (List.length_filter_le _ _) ah
def N9 (w:World)(g:Gs)(ss:oA)(gc:Nat)(h:Gs)(st:oA)(hc:Nat)(w':World):Prop:=
 (w'.cell? ⟨w.heap.size,0,nO⟩=sO (Bb g.n)/\w'.cell? ⟨w.heap.size,1,nO⟩=sO (Bb g.sp.n)/\w'.cell? ⟨w.heap.size,2,nO⟩=sO (I Y g.sp.lo)/\w'.cell? ⟨w.heap.size,3,nO⟩=sO (I Y g.sp.hi)/\w'.cell? ⟨w.heap.size,4,nO⟩=sO (Bb g.t)/\w'.cell? ⟨w.heap.size,5,nO⟩=sO (Bb g.f)/\w'.cell? ⟨w.heap.size,6,nO⟩=sO (U ss g.s.length gc))/\
 (w'.cell? ⟨w.heap.size+1,0,nO⟩=sO (Bb h.n)/\w'.cell? ⟨w.heap.size+1,1,nO⟩=sO (Bb h.sp.n)/\w'.cell? ⟨w.heap.size+1,2,nO⟩=sO (I Y h.sp.lo)/\w'.cell? ⟨w.heap.size+1,3,nO⟩=sO (I Y h.sp.hi)/\w'.cell? ⟨w.heap.size+1,4,nO⟩=sO (Bb h.t)/\w'.cell? ⟨w.heap.size+1,5,nO⟩=sO (Bb h.f)/\w'.cell? ⟨w.heap.size+1,6,nO⟩=sO (U st h.s.length hc))
theorem CX {p:Prop}(h:p:=by
 have hln:=HL.out k;go_wp2_with (at_builtin;refine wpList_append_own _ rfl _ _ 34 rfl W.heap.size 3 ti (.int .i64 0) 1 8 underlying34 hi hz0 hz1 hz2 rfl ai _ _ _ rfl (OR.alloc _) ⟨wr.heap.size,0,none⟩ 1 1 [.int .i64 (k:Int)] rfl rfl (cell_one_new _ _ _) (λx hx=>kr) cO aa ap ?_;intro v' w3 hown' hgrow3 hnil3;have hlow:∀b,b < W.heap.size->some b≠(Value.slice vs (bI sl h.s k).length vc).ownBlock:=(λb hb e=>by have:=ni OR e.symm;omega);have O3:w3.ownsRow W.heap.size 3 1 v' (bI sl h.s (k+1)).length ((bI sl h.s (k+1)).map (.int .i64)):=(by rw[HT.out,List.map_append,List.length_append];exact hown');obtain⟨vs',vc',hv',-⟩:=IntsAt.own O3;subst hv';have G3:=((GR.alloc _).grown hgrow3 (hlow _ aa));have H3:=((HR.alloc _).grown hgrow3 (hlow _ aa));have R3:=((RR.alloc _).grown hgrow3 (hlow _ aa));have F3:=((FR.alloc _).grown hgrow3 (hlow _ aa));have U3:=((UR.alloc _).grown hgrow3 (hlow _ aa));have X3:=((XR.alloc _).grown hgrow3 (hlow _ aa));have B3:=((BR.alloc BR.size _).grown hgrow3 (by simp;have:=BR.size;omega) (λj hj=>by have:=ni OR hj;omega));have z3:=hgrow3.size;simp only[World.size_alloc] at z3;obtain⟨⟨u0,u1,u2,u3,u4,u5,u6⟩,uz⟩:=id U3;simp only[Nat.zero_add] at u0 u1 u2 u3 u4 u5 u6;have fz3:=X3.1);go_roundw
 case rel=>exact⟨k+1,vs',vc',aa,aF,G3.setFar aa,H3.setFar aa,R3.setFar aa,F3.set,U3.setS,X3.set,o8 O3 aa,ap,B3.setCell (by show w.heap.size<=ob;omega) _⟩
 case measure=>exact aK):p:=h
theorem Bf {p:Prop}(h:p:=by
 go_wp2_with fail;refine(yR (k:Int) ss gc sl _ hgl IR).mono ?_;rintro e w5 ⟨rfl,hw5⟩;have hw6:=hw5.symm;subst hw6;have HD:Hid (sl.contains (k:Int)=sl.contains (k:Int)):=rfl;generalize hd:sl.contains (k:Int)=d at *;have HE:=ag hd;clear hd HD hw5;cases d with
 |true=>
  have HT:Hid (bI sl h.s (k+1)=bI sl h.s k++[(k:Int)]):=by show _=_;rw[HS.out k,if_pos];simp only[HE.out,Bool.true_or]
  exact CX
 |false=>
  go_wp2_with fail;refine(yR (k:Int) st hc h.s _ hlt' JR).mono ?_;rintro e w5 ⟨rfl,hw5⟩;have hw6:=hw5.symm;subst hw6;generalize hd2:h.s.contains (k:Int)=d2 at *;have HE2:=ag hd2;clear hd2 hw5;cases d2 with
  |true=>
   have HT:Hid (bI sl h.s (k+1)=bI sl h.s k++[(k:Int)]):=by show _=_;rw[HS.out k,if_pos];simp only[HE.out,HE2.out,Bool.false_or]
   exact CX
  |false=>
   have HT:Hid (bI sl h.s (k+1)=bI sl h.s k):=by show _=_;rw[HS.out k,if_neg (by simp only[HE.out,HE2.out];simp),List.append_nil]
   go_wp2;go_roundw
   case rel=>exact⟨k+1,vs,vc,aa,aF,GR,HR,RR,FR,by rw[HT.out];exact UR,XR,by rw[HT.out];exact OR,zR,BR⟩
   case measure=>exact aK):p:=h
theorem Br {p:Prop}(h:p:=by
 have HS:=ag (Mb g.s h.s);have HL:=ag (Pr g.s h.s);clear G0 H0 B0;go_enter func114,ntmps114;go_wp2;generalize ((w.alloc (.cells #[.bool g.n,.bool g.sp.n,.int .i64 g.sp.lo,.int .i64 g.sp.hi,.bool g.t,.bool g.f,.slice ss g.s.length gc] 91)).alloc (.cells #[.bool h.n,.bool h.sp.n,.int .i64 h.sp.lo,.int .i64 h.sp.hi,.bool h.t,.bool h.f,.slice st h.s.length hc] 91)).alloc (.cells #[.bool false,.bool false,.int .i64 0,.int .i64 0,.bool false,.bool false,.slice none 0 0] 91)=w1 at *;have KS:∀wx,GuAt wx w.heap.size 0 g ss gc->GuAt wx (w.heap.size+1) 0 h st hc->N9 w g ss gc h st hc wx:=λwx a b=>⟨by simpa using a.1,by simpa using b.1⟩;unfold N9 at KS;obtain⟨n,sp,t,f,sl⟩:=g;refine wp_region_held_drew (S:=N9 w ⟨n,sp,t,f,sl⟩ ss gc h st hc) ae (KS _ G1.drew H1.drew) (λhHeld=> ?_);unfold N9 at hHeld |-;refine vH 0 ?_ ?_;refine vH 1 ?_ ?_;refine vH 2 ?_ ?_;refine wpAnyH_take (i:=3) (v:=if n=true then undef else .pointer (some ⟨w.heap.size+1,0,none⟩)) rfl ae ae ae (λ_ _ _ h=>h) ?_ cr ?_
 ·cases n
  ·refine Or.inl ⟨?_,?_⟩
   ·rfl
   ·(intro w hSw;(try dsimp only at hSw);first|(go_simp;done)|(go_simp;with_reducible rfl))
  ·exact dj
 refine sm ?_;refine wpAnyH_take (i:=4) (v:=if n=true then undef else .bool h.n) rfl ae ae ae (λ_ _ _ h=>h) ?_ cr ?_
 ·cases n
  ·refine Or.inl ⟨?_,?_⟩
   ·rfl
   ·(intro w hSw;(try dsimp only at hSw);first|(go_simp;done)|(go_simp;with_reducible rfl))
  ·exact dj
 refine sm ?_;refine wpAnyH_take (i:=5) (v:=.bool (n||h.n)) rfl ae ae ae (λ_ _ _ h=>h) ?_ cr ?_
 ·cases n
  ·refine Or.inl ⟨?_,?_⟩
   ·rfl
   ·(intro w hSw;(try dsimp only at hSw);first|(go_simp;done)|(go_simp;with_reducible rfl))
  ·refine Or.inl ⟨?_,?_⟩
   ·rfl
   ·(intro w hSw;(try dsimp only at hSw);first|(go_simp;done)|(go_simp;with_reducible rfl))
 refine sm ?_;refine vH 6 ?_ ?_;refine vH 7 ?_ ?_;refine vH 8 ?_ ?_;refine vH 9 ?_ ?_;refine vH 10 ?_ ?_;refine vH 12 ?_ ?_;refine vH 13 ?_ ?_;refine vH 18 ?_ ?_;refine vH 19 ?_ ?_;refine wpAnyH_ready (rs:=[11,25]) ae ah ?_;refine AllReadyH.cons rfl (λK hK=> ?_) (AllReadyH.cons rfl (λK hK=> ?_) AllReadyH.nil)
 ·go_simp
  refine(HJ.out _).mono ?_;rintro e w2 ⟨rfl,hb2⟩;have G2:=G1.drew.call hb2;have H2:=H1.drew.call hb2;have R2:=R1.drew.call hb2;have F2:=F1.drew.call hb2;have B2:bl w w2:=B1.drew.trans (hb2.mono B1.size);clear hb2 G1 H1 R1 F1 B1;refine hK.out _ _ (KS _ G2 H2) (λhHeld=> ?_);clear hK K;refine sm ?_;refine vH 14 ?_ ?_;refine wpAnyH_take (i:=15) (v:=if t=true then undef else .pointer (some ⟨w.heap.size+1,4,none⟩)) rfl ae ae ae (λ_ _ _ h=>h) ?_ cr ?_
  ·cases t
   ·refine Or.inl ⟨?_,?_⟩
    ·rfl
    ·(intro w hSw;(try dsimp only at hSw);first|(go_simp;done)|(go_simp;with_reducible rfl))
   ·exact dj
  refine sm ?_;refine wpAnyH_take (i:=16) (v:=if t=true then undef else .bool h.t) rfl ae ae ae (λ_ _ _ h=>h) ?_ cr ?_
  ·cases t
   ·refine Or.inl ⟨?_,?_⟩
    ·rfl
    ·(intro w hSw;(try dsimp only at hSw);first|(go_simp;done)|(go_simp;with_reducible rfl))
   ·exact dj
  refine sm ?_;refine wpAnyH_take (i:=17) (v:=.bool (t||h.t)) rfl ae ae ae (λ_ _ _ h=>h) ?_ cr ?_
  ·cases t
   ·refine Or.inl ⟨?_,?_⟩
    ·rfl
    ·(intro w hSw;(try dsimp only at hSw);first|(go_simp;done)|(go_simp;with_reducible rfl))
   ·refine Or.inl ⟨?_,?_⟩
    ·rfl
    ·(intro w hSw;(try dsimp only at hSw);first|(go_simp;done)|(go_simp;with_reducible rfl))
  refine sm ?_;refine vH 20 ?_ ?_;refine wpAnyH_take (i:=21) (v:=if f=true then undef else .pointer (some ⟨w.heap.size+1,5,none⟩)) rfl ae ae ae (λ_ _ _ h=>h) ?_ cr ?_
  ·cases f
   ·refine Or.inl ⟨?_,?_⟩
    ·rfl
    ·(intro w hSw;(try dsimp only at hSw);first|(go_simp;done)|(go_simp;with_reducible rfl))
   ·exact dj
  refine sm ?_;refine wpAnyH_take (i:=22) (v:=if f=true then undef else .bool h.f) rfl ae ae ae (λ_ _ _ h=>h) ?_ cr ?_
  ·cases f
   ·refine Or.inl ⟨?_,?_⟩
    ·rfl
    ·(intro w hSw;(try dsimp only at hSw);first|(go_simp;done)|(go_simp;with_reducible rfl))
   ·exact dj
  refine sm ?_;refine wpAnyH_take (i:=23) (v:=.bool (f||h.f)) rfl ae ae ae (λ_ _ _ h=>h) ?_ cr ?_
  ·cases f
   ·refine Or.inl ⟨?_,?_⟩
    ·rfl
    ·(intro w hSw;(try dsimp only at hSw);first|(go_simp;done)|(go_simp;with_reducible rfl))
   ·refine Or.inl ⟨?_,?_⟩
    ·rfl
    ·(intro w hSw;(try dsimp only at hSw);first|(go_simp;done)|(go_simp;with_reducible rfl))
  refine sm ?_;refine vH 24 ?_ ?_;refine rH1 25 λK hK=> ?_;go_simp;refine hK.out _ _ (KS _ (G2.alloc _) (H2.alloc _)) (λhHeld=> ?_);clear hK K;refine sm ?_;refine rH1 26 λK hK=> ?_;go_simp;refine hK.out _ _ (KS _ (G2.alloc _) (H2.alloc _)) (λhHeld=> ?_);clear hK K;refine sm ?_;have GW:=G2.alloc (.cells #[.bool (n||h.n),.bool J.n,.int .i64 J.lo,.int .i64 J.hi,.bool (t||h.t),.bool (f||h.f),.slice none 0 0] 91);have HW:=H2.alloc (.cells #[.bool (n||h.n),.bool J.n,.int .i64 J.lo,.int .i64 J.hi,.bool (t||h.t),.bool (f||h.f),.slice none 0 0] 91);have RW:=R2.alloc (.cells #[.bool (n||h.n),.bool J.n,.int .i64 J.lo,.int .i64 J.hi,.bool (t||h.t),.bool (f||h.f),.slice none 0 0] 91);have FW:=F2.alloc (.cells #[.bool (n||h.n),.bool J.n,.int .i64 J.lo,.int .i64 J.hi,.bool (t||h.t),.bool (f||h.f),.slice none 0 0] 91);have BW:=B2.alloc B2.size (.cells #[.bool (n||h.n),.bool J.n,.int .i64 J.lo,.int .i64 J.hi,.bool (t||h.t),.bool (f||h.f),.slice none 0 0] 91);have UW:GuAt (w2.alloc (.cells #[.bool (n||h.n),.bool J.n,.int .i64 J.lo,.int .i64 J.hi,.bool (t||h.t),.bool (f||h.f),.slice none 0 0] 91)) w2.heap.size 0 ⟨n||h.n,J,t||h.t,f||h.f,bI sl h.s 0⟩ none 0:=GuAt.new w2 ⟨n||h.n,J,t||h.t,f||h.f,[]⟩ none 0;have XW:Fr7 (w2.alloc (.cells #[.bool (n||h.n),.bool J.n,.int .i64 J.lo,.int .i64 J.hi,.bool (t||h.t),.bool (f||h.f),.slice none 0 0] 91)) w2.heap.size:=⟨λj=>aX,ah⟩;have zo:w.heap.size+1+1 < w2.heap.size:=F2.2;have zw:=XW.2;clear G2 H2 R2 F2 B2;generalize w2.alloc (.cells #[.bool (n||h.n),.bool J.n,.int .i64 J.lo,.int .i64 J.hi,.bool (t||h.t),.bool (f||h.f),.slice none 0 0] 91)=W at *;generalize w2.heap.size=ob at *;refine wpAnyH_done ae ?_ _;generalize (if n=true then undef else(.pointer (some ⟨w.heap.size+1,0,none⟩):Value))=y0;generalize (if n=true then undef else(.bool h.n:Value))=y1;generalize (if t=true then undef else(.pointer (some ⟨w.heap.size+1,4,none⟩):Value))=y2;generalize (if t=true then undef else(.bool h.t:Value))=y3;generalize (if f=true then undef else(.pointer (some ⟨w.heap.size+1,5,none⟩):Value))=y4;generalize (if f=true then undef else(.bool h.f:Value))=y5;clear hHeld KS HJ;go_wp2;go_loopw [8] (λi wr=>∃(k:Nat) (vs:oA) (vc:Nat),k<=60/\i=.int .i64 k/\GuAt wr w.heap.size 0 ⟨n,sp,t,f,sl⟩ ss gc/\GuAt wr (w.heap.size+1) 0 h st hc/\GuAt wr (w.heap.size+1+1) 0 bG none 0/\Fr7 wr (w.heap.size+1+1)/\GuAt wr ob 0 ⟨n||h.n,J,t||h.t,f||h.f,bI sl h.s k⟩ vs vc/\Fr7 wr ob/\wr.ownsRow W.heap.size 3 1 (.slice vs (bI sl h.s k).length vc) (bI sl h.s k).length ((bI sl h.s k).map (.int .i64))/\W.heap.size<=wr.heap.size/\bl w wr) (λi _=>60 - (intOf i).toNat)
  case atStart=>exact⟨0,none,0,aa,rfl,GW,HW,RW,FW,UW,XW,⟨by simp[bI],.inl ⟨rfl,by simp[bI]⟩⟩,Nat.le_refl _,BW⟩
  case round=>
   obtain⟨k,vs,vc,hk,rfl,GR,HR,RR,FR,UR,XR,OR,zR,BR⟩:=hrel;clear GW HW RW FW UW XW BW;have IR:=hs.below BR (Nat.le_refl _);have JR:=ht.below BR (Nat.le_refl _);obtain⟨⟨g0,g1,g2,g3,g4,g5,g6⟩,gz⟩:=id GR;obtain⟨⟨k0,k1,k2,k3,k4,k5,k6⟩,kz⟩:=id HR;obtain⟨⟨u0,u1,u2,u3,u4,u5,u6⟩,uz⟩:=id UR;simp only[Nat.zero_add] at g0 g1 g2 g3 g4 g5 g6 k0 k1 k2 k3 k4 k5 k6 u0 u1 u2 u3 u4 u5 u6;by_cases hlt:k < 60
   ·have n1:(k:Int) < 60:=by omega
    exact Bf
   ·have hk':k=60:=by omega
    subst hk';obtain⟨⟨r0,r1,r2,r3,r4,r5,r6⟩,rz⟩:=id RR;simp only[Nat.zero_add,bG] at r0 r1 r2 r3 r4 r5 r6;have fz:=FR.1;go_wp2;refine bodyPost_ret (v:=.agg #[.bool (n||h.n),.bool J.n,.int .i64 J.lo,.int .i64 J.hi,.bool (t||h.t),.bool (f||h.f),.slice vs (bI sl h.s 60).length vc]) MN rfl ⟨_,rfl,?_,?_⟩
    ·exact gr (gw OR aa) aa
    ·exact bC BR aa
 ·go_simp
  have GA:=(G1.alloc (.cells #[.bool false,.bool false,.int .i64 0,.int .i64 0,.bool false,.bool false,.slice none 0 0] 91)).drew;have HA:=(H1.alloc (.cells #[.bool false,.bool false,.int .i64 0,.int .i64 0,.bool false,.bool false,.slice none 0 0] 91)).drew;have RA:=(R1.alloc (.cells #[.bool false,.bool false,.int .i64 0,.int .i64 0,.bool false,.bool false,.slice none 0 0] 91)).drew;have FA:=(F1.alloc (.cells #[.bool false,.bool false,.int .i64 0,.int .i64 0,.bool false,.bool false,.slice none 0 0] 91)).drew;have BA:=(B1.alloc B1.size (.cells #[.bool false,.bool false,.int .i64 0,.int .i64 0,.bool false,.bool false,.slice none 0 0] 91)).drew;have UA:GuAt (w1.alloc (.cells #[.bool false,.bool false,.int .i64 0,.int .i64 0,.bool false,.bool false,.slice none 0 0] 91)).drew w1.heap.size 0 bG none 0:=(GuAt.new w1 bG none 0).drew;have XA:Fr7 (w1.alloc (.cells #[.bool false,.bool false,.int .i64 0,.int .i64 0,.bool false,.bool false,.slice none 0 0] 91)).drew w1.heap.size:=Fr7.drew ⟨λj=>aX,ah⟩;have zo:w.heap.size+1+1 < w1.heap.size:=F1.2;refine hK.out _ _ (KS _ GA HA) (λhHeld=> ?_);clear hK K G1 H1 R1 F1 B1;refine sm ?_;refine rH1 11 λK hK=> ?_;go_simp;refine(HJ.out _).mono ?_;rintro e w2 ⟨rfl,hb2⟩;have G2:=GA.call hb2;have H2:=HA.call hb2;have R2:=RA.call hb2;have F2:=FA.call hb2;have U2:=UA.call hb2;have X2:=XA.call hb2;have B2:bl w w2:=BA.trans (hb2.mono BA.size);clear hb2 GA HA RA FA BA UA XA;generalize w1.heap.size=ob at *;refine hK.out _ _ (KS _ G2 H2) (λhHeld=> ?_);clear hK K;refine sm ?_;refine vH 14 ?_ ?_;refine wpAnyH_take (i:=15) (v:=if t=true then undef else .pointer (some ⟨w.heap.size+1,4,none⟩)) rfl ae ae ae (λ_ _ _ h=>h) ?_ cr ?_
  ·cases t
   ·refine Or.inl ⟨?_,?_⟩
    ·rfl
    ·(intro w hSw;(try dsimp only at hSw);first|(go_simp;done)|(go_simp;with_reducible rfl))
   ·exact dj
  refine sm ?_;refine wpAnyH_take (i:=16) (v:=if t=true then undef else .bool h.t) rfl ae ae ae (λ_ _ _ h=>h) ?_ cr ?_
  ·cases t
   ·refine Or.inl ⟨?_,?_⟩
    ·rfl
    ·(intro w hSw;(try dsimp only at hSw);first|(go_simp;done)|(go_simp;with_reducible rfl))
   ·exact dj
  refine sm ?_;refine wpAnyH_take (i:=17) (v:=.bool (t||h.t)) rfl ae ae ae (λ_ _ _ h=>h) ?_ cr ?_
  ·cases t
   ·refine Or.inl ⟨?_,?_⟩
    ·rfl
    ·(intro w hSw;(try dsimp only at hSw);first|(go_simp;done)|(go_simp;with_reducible rfl))
   ·refine Or.inl ⟨?_,?_⟩
    ·rfl
    ·(intro w hSw;(try dsimp only at hSw);first|(go_simp;done)|(go_simp;with_reducible rfl))
  refine sm ?_;refine vH 20 ?_ ?_;refine wpAnyH_take (i:=21) (v:=if f=true then undef else .pointer (some ⟨w.heap.size+1,5,none⟩)) rfl ae ae ae (λ_ _ _ h=>h) ?_ cr ?_
  ·cases f
   ·refine Or.inl ⟨?_,?_⟩
    ·rfl
    ·(intro w hSw;(try dsimp only at hSw);first|(go_simp;done)|(go_simp;with_reducible rfl))
   ·exact dj
  refine sm ?_;refine wpAnyH_take (i:=22) (v:=if f=true then undef else .bool h.f) rfl ae ae ae (λ_ _ _ h=>h) ?_ cr ?_
  ·cases f
   ·refine Or.inl ⟨?_,?_⟩
    ·rfl
    ·(intro w hSw;(try dsimp only at hSw);first|(go_simp;done)|(go_simp;with_reducible rfl))
   ·exact dj
  refine sm ?_;refine wpAnyH_take (i:=23) (v:=.bool (f||h.f)) rfl ae ae ae (λ_ _ _ h=>h) ?_ cr ?_
  ·cases f
   ·refine Or.inl ⟨?_,?_⟩
    ·rfl
    ·(intro w hSw;(try dsimp only at hSw);first|(go_simp;done)|(go_simp;with_reducible rfl))
   ·refine Or.inl ⟨?_,?_⟩
    ·rfl
    ·(intro w hSw;(try dsimp only at hSw);first|(go_simp;done)|(go_simp;with_reducible rfl))
  refine sm ?_;refine vH 24 ?_ ?_;obtain⟨⟨o0,o1,o2,o3,o4,o5,o6⟩,oz⟩:=id U2;simp only[Nat.zero_add,bG] at o0 o1 o2 o3 o4 o5 o6;have fzo:=X2.1;refine rH1 26 λK hK=> ?_;go_simp;have GW:=GuAt.put7 (b:=ob) (v0:=.bool (n||h.n)) (v1:=.bool J.n) (v2:=.int .i64 J.lo) (v3:=.int .i64 J.hi) (v4:=.bool (t||h.t)) (v5:=.bool (f||h.f)) (v6:=.slice none 0 0) G2 aa;have HW:=GuAt.put7 (b:=ob) (v0:=.bool (n||h.n)) (v1:=.bool J.n) (v2:=.int .i64 J.lo) (v3:=.int .i64 J.hi) (v4:=.bool (t||h.t)) (v5:=.bool (f||h.f)) (v6:=.slice none 0 0) H2 aa;have RW:=GuAt.put7 (b:=ob) (v0:=.bool (n||h.n)) (v1:=.bool J.n) (v2:=.int .i64 J.lo) (v3:=.int .i64 J.hi) (v4:=.bool (t||h.t)) (v5:=.bool (f||h.f)) (v6:=.slice none 0 0) R2 aa;have FW:Fr7 (iX w2 ob (.bool (n||h.n)) (.bool J.n) (.int .i64 J.lo) (.int .i64 J.hi) (.bool (t||h.t)) (.bool (f||h.f)) (.slice none 0 0)) (w.heap.size+1+1):=((((((F2.set).set).set).set).set).set).set;have XW:Fr7 (iX w2 ob (.bool (n||h.n)) (.bool J.n) (.int .i64 J.lo) (.int .i64 J.hi) (.bool (t||h.t)) (.bool (f||h.f)) (.slice none 0 0)) ob:=((((((X2.set).set).set).set).set).set).set;have UW:GuAt (iX w2 ob (.bool (n||h.n)) (.bool J.n) (.int .i64 J.lo) (.int .i64 J.hi) (.bool (t||h.t)) (.bool (f||h.f)) (.slice none 0 0)) ob 0 ⟨n||h.n,J,t||h.t,f||h.f,bI sl h.s 0⟩ none 0:=⟨by simp[go_sem,iX,o0,o1,o2,o3,o4,o5,o6,bI],by rw[ug];exact oz⟩;have BW:bl w (iX w2 ob (.bool (n||h.n)) (.bool J.n) (.int .i64 J.lo) (.int .i64 J.hi) (.bool (t||h.t)) (.bool (f||h.f)) (.slice none 0 0)):=bC B2 aa;refine hK.out _ _ (KS _ GW HW) (λhHeld=> ?_);have zw:=XW.2;clear hK K G2 H2 R2 F2 U2 X2 B2 o0 o1 o2 o3 o4 o5 o6 fzo oz;refine sm ?_;unfold iX at GW HW RW FW XW UW BW zw;generalize ((((((w2.setCell ⟨ob,0,none⟩ (.bool (n||h.n))).setCell ⟨ob,1,none⟩ (.bool J.n)).setCell ⟨ob,2,none⟩ (.int .i64 J.lo)).setCell ⟨ob,3,none⟩ (.int .i64 J.hi)).setCell ⟨ob,4,none⟩ (.bool (t||h.t))).setCell ⟨ob,5,none⟩ (.bool (f||h.f))).setCell ⟨ob,6,none⟩ (.slice none 0 0)=W at *;refine wpAnyH_done ae ?_ _;generalize (if n=true then undef else(.pointer (some ⟨w.heap.size+1,0,none⟩):Value))=y0;generalize (if n=true then undef else(.bool h.n:Value))=y1;generalize (if t=true then undef else(.pointer (some ⟨w.heap.size+1,4,none⟩):Value))=y2;generalize (if t=true then undef else(.bool h.t:Value))=y3;generalize (if f=true then undef else(.pointer (some ⟨w.heap.size+1,5,none⟩):Value))=y4;generalize (if f=true then undef else(.bool h.f:Value))=y5;clear hHeld KS HJ;go_wp2;go_loopw [8] (λi wr=>∃(k:Nat) (vs:oA) (vc:Nat),k<=60/\i=.int .i64 k/\GuAt wr w.heap.size 0 ⟨n,sp,t,f,sl⟩ ss gc/\GuAt wr (w.heap.size+1) 0 h st hc/\GuAt wr (w.heap.size+1+1) 0 bG none 0/\Fr7 wr (w.heap.size+1+1)/\GuAt wr ob 0 ⟨n||h.n,J,t||h.t,f||h.f,bI sl h.s k⟩ vs vc/\Fr7 wr ob/\wr.ownsRow W.heap.size 3 1 (.slice vs (bI sl h.s k).length vc) (bI sl h.s k).length ((bI sl h.s k).map (.int .i64))/\W.heap.size<=wr.heap.size/\bl w wr) (λi _=>60 - (intOf i).toNat)
  case atStart=>exact⟨0,none,0,aa,rfl,GW,HW,RW,FW,UW,XW,⟨by simp[bI],.inl ⟨rfl,by simp[bI]⟩⟩,Nat.le_refl _,BW⟩
  case round=>
   obtain⟨k,vs,vc,hk,rfl,GR,HR,RR,FR,UR,XR,OR,zR,BR⟩:=hrel;clear GW HW RW FW UW XW BW;have IR:=hs.below BR (Nat.le_refl _);have JR:=ht.below BR (Nat.le_refl _);obtain⟨⟨g0,g1,g2,g3,g4,g5,g6⟩,gz⟩:=id GR;obtain⟨⟨k0,k1,k2,k3,k4,k5,k6⟩,kz⟩:=id HR;obtain⟨⟨u0,u1,u2,u3,u4,u5,u6⟩,uz⟩:=id UR;simp only[Nat.zero_add] at g0 g1 g2 g3 g4 g5 g6 k0 k1 k2 k3 k4 k5 k6 u0 u1 u2 u3 u4 u5 u6;by_cases hlt:k < 60
   ·have n1:(k:Int) < 60:=by omega
    exact Bf
   ·have hk':k=60:=by omega
    subst hk';obtain⟨⟨r0,r1,r2,r3,r4,r5,r6⟩,rz⟩:=id RR;simp only[Nat.zero_add,bG] at r0 r1 r2 r3 r4 r5 r6;have fz:=FR.1;go_wp2;refine bodyPost_ret (v:=.agg #[.bool (n||h.n),.bool J.n,.int .i64 J.lo,.int .i64 J.hi,.bool (t||h.t),.bool (f||h.f),.slice vs (bI sl h.s 60).length vc]) MN rfl ⟨_,rfl,?_,?_⟩
    ·exact gr (gw OR aa) aa
    ·exact bC BR aa):p:=h
end
section
theorem rq:∀(a b:List Int),a.Pairwise (· < ·)->b.Pairwise (· < ·)->(∀x,x∈a↔x∈b)->a=b
 |[],[],_,_,_=>rfl
 |[],y::b,_,_,h=>absurd ((h y).2 ah) ah
 |x::a,[],_,_,h=>absurd ((h x).1 ah) ah
 |x::a,y::b,ha,hb,h=>by
  rw[List.pairwise_cons] at ha hb;have exy:x=y:=by
   have h1:=(h x).1 ah;have h2:=(h y).2 ah;rw[z1] at h1 h2;rcases h1 with e|h1
   ·exact e
   ·rcases h2 with e|h2
    ·exact e.symm
    ·have:=ha.1 y h2
     have:=hb.1 x h1;omega
  subst exy;rw[rq a b ha.2 hb.2 λz=> ?_];constructor
  ·intro hz
   have:=(h z).1 (by simp[hz]);rw[z1] at this;rcases this with e|h1
   ·have:=ha.1 z hz;omega
   ·exact h1
  ·intro hz
   have:=(h z).2 (by simp[hz]);rw[z1] at this;rcases this with e|h1
   ·have:=hb.1 z hz;omega
   ·exact h1

theorem CH (a b:List Int)(k:Nat)(x:Int):x∈bI a b k↔(0<=x/\x < k)/\(x∈a\/x∈b):=by
 unfold bI;rw[j8,x7];simp only[j9,Bool.or_eq_true,List.contains_iff_mem];constructor
 ·rintro ⟨⟨n,hn,rfl⟩,h⟩
  exact⟨⟨aa,aa⟩,h⟩
 ·rintro ⟨⟨h0,h1⟩,h⟩
  exact⟨⟨x.toNat,aa,aa⟩,h⟩

theorem tC (a b:List Int)(k:Nat):(bI a b k).Pairwise (· < ·):=by
 unfold bI;refine q0.filter _ ?_;rw[x8];exact q0.imp (λh=>aa) x9

open Go.Lib in
theorem DL (l:List Int)(h:l.Pairwise (· <=·)):(compact l).Pairwise (· < ·)/\∀x,x∈compact l↔x∈l:=by
 have get:∀j (hj:j < l.length),l.toArray[j]! =l[j]:=λj hj=>by simp[hj]
 have mono:∀i j (hi:i < l.length) (hj:j < l.length),i<=j->l[i]<=l[j]:=by
  intro i j hi hj hij;by_cases e:i=j
  ·subst e;exact Int.le_refl _
  ·exact List.pairwise_iff_getElem.1 h i j hi hj aa
 constructor
 ·unfold compact compactUpTo
  rw[x8];refine q0.imp_of_mem ?_ (q0.filter _ x9);intro i j hi hj hij;rw[j8,j9] at hi hj;rw[get i hi.1,get j hj.1];have hk:=hj.2;unfold keeps at hk;rw[decide_eq_true_eq] at hk;rcases hk with e|hne
  ·omega
  ·rw[get j hj.1,get (j - 1) aa] at hne
   have h1:=mono i (j - 1) hi.1 aa aa;have h2:=mono (j - 1) j aa hj.1 aa;omega
 ·intro x
  unfold compact compactUpTo;rw[x7];constructor
  ·rintro ⟨j,hj,rfl⟩
   rw[j8,j9] at hj;rw[get j hj.1];exact gM _
  ·intro hx
   obtain⟨j,hj,rfl⟩:=List.getElem_of_mem hx;have ex:∃i,i<=j/\∃(hi:i < l.length),l[i]=l[j]/\keeps l.toArray i=true:=by
    clear hx;induction j with
    |zero=>exact⟨0,lR _,hj,rfl,by simp[keeps]⟩
    |succ j ih=>
     by_cases e:l[j+1]=l[j]
     ·obtain⟨i,hi,hil,h1,h2⟩:=ih aa
      exact⟨i,aa,hil,by rw[h1,e],h2⟩
     ·refine⟨j+1,lR _,hj,rfl,?_⟩
      unfold keeps;rw[decide_eq_true_eq];right;rw[get (j+1) hj,get (j+1 - 1) aa];exact e
   obtain⟨i,-,hil,h1,h2⟩:=ex;refine⟨i,?_,by rw[get i hil,h1]⟩;rw[j8,j9];exact⟨hil,h2⟩

theorem mC (g h:Gs)(hg:∀x∈g.s,0<=x/\x < 60)(hh:∀x∈h.s,0<=x/\x < 60):cI [g,h]=bI g.s h.s 60:=by
 have hs:(([g,h].flatMap Gs.s).mergeSort λx y=>decide (x<=y)).Pairwise (· <=·):=by
  have:=List.pairwise_mergeSort (le:=λx y:Int=>decide (x<=y)) (by intro a b c;simp;omega) (by intro a b;simp;omega) ([g,h].flatMap Gs.s);exact this.imp λh=>cq
 obtain⟨h1,h2⟩:=DL _ hs;refine rq _ _ h1 (tC _ _ _) λx=> ?_;rw[show cI [g,h]=Go.Lib.compact (([g,h].flatMap Gs.s).mergeSort λx y=>decide (x<=y)) from rfl,h2,List.mem_mergeSort,CH];simp only[List.flatMap_cons,List.flatMap_nil,x6,List.mem_append];constructor
 ·rintro (h|h)
  ·exact⟨hg x h,.inl h⟩
  ·exact⟨hh x h,.inr h⟩
 ·exact λh=>h.2

theorem Rv {c:lI}(hl:c.length<=60){x:Int}(h:cc c x=true):0<=x/\x < 60:=by
 unfold cc at h;simp only[Bool.and_eq_true,decide_eq_true_eq] at h;omega

theorem dx {c:lI}{g:Gs}(hl:c.length<=60)(h:aE c g=0):(∀x∈g.s,0<=x/\x < 60)/\di g.s=true:=by
 unfold aE at h;split at h
 ·contradiction
 ·split at h
  ·cases h
  ·split at h
   ·cases h
   ·rename_i h1 h2
    refine⟨λx hx=> ?_,kX⟩;have:g.s.all (cc c)=true:=gT;exact Rv hl (List.all_eq_true.1 this x hx)
theorem da {l:List Int}(hr:di l=true)(hb:∀x∈l,0<=x/\x < 60):l.length<=60:=by
 have key:∀k (h:k < l.length),(k:Int)<=l[k]:=by
  intro k;induction k with
  |zero=>intro h;exact(hb _ (gM h)).1
  |succ k ih=>
   intro h;have h1:=ih aa;have h2:=(Co l).1 hr k h;omega
 by_cases h0:l.length=0
 ·omega
 ·have h1:=key (l.length - 1) aa
  have h2:=(hb _ (gM (show l.length - 1 < l.length by omega))).2;omega
end
section
open Go.RowKit
theorem Dy (g:Gs)(ss:oA)(gc:Nat)(h:Gs)(st:oA)(hc:Nat)(w:World)(hs:IntsAt w ss g.s)(hgl:g.s.length<=9223372036854775807)(ht:IntsAt w st h.s)(hlt':h.s.length<=9223372036854775807):
  Calls pG 114 #[gv g ss gc,gv h st hc,Bb false] w λe w'=>∃v,e=Rt (Ag #[Bb (g.n||h.n),Bb (bj g.sp h.sp).n,I Y (bj g.sp h.sp).lo,I Y (bj g.sp h.sp).hi,Bb (g.t||h.t),Bb (g.f||h.f),v])/\w'.ownsRow w.heap.size 3 1 v (bI g.s h.s 60).length ((bI g.s h.s 60).map (.int .i64))/\bl w w':=by
 obtain⟨ti,hi,hz0,hz1,hz2⟩:=info_parts Tryz.info_intG;obtain⟨G0,H0,B0⟩:=Hf w g ss gc h st hc;have G1:=IL;have H1:=Ht;have B1:=Hr;have R1:GuAt (((w.alloc (Cc #[Bb g.n,Bb g.sp.n,I Y g.sp.lo,I Y g.sp.hi,Bb g.t,Bb g.f,U ss g.s.length gc] 91)).alloc (Cc #[Bb h.n,Bb h.sp.n,I Y h.sp.lo,I Y h.sp.hi,Bb h.t,Bb h.f,U st h.s.length hc] 91)).alloc (Cc #[Bb false,Bb false,I Y 0,I Y 0,Bb false,Bb false,U nO 0 0] 91)) (w.heap.size+1+1) 0 bG nO 0:=by
  have:=GuAt.new ((w.alloc (Cc #[Bb g.n,Bb g.sp.n,I Y g.sp.lo,I Y g.sp.hi,Bb g.t,Bb g.f,U ss g.s.length gc] 91)).alloc (Cc #[Bb h.n,Bb h.sp.n,I Y h.sp.lo,I Y h.sp.hi,Bb h.t,Bb h.f,U st h.s.length hc] 91)) bG nO 0;simp only[zA] at this;exact this
 have F1:=Gn;have HJ:=ag (λw=>Iw g.sp h.sp w);generalize bj g.sp h.sp=J at HJ |-;exact Br
theorem DW (g:Gs)(ss:oA)(gc:Nat)(h:Gs)(st:oA)(hc:Nat)(w:World)(hs:IntsAt w ss g.s)(hgl:g.s.length<=9223372036854775807)(ht:IntsAt w st h.s)(hlt':h.s.length<=9223372036854775807):
  Calls pG 114 #[gv g ss gc,gv h st hc,Bb true] w λe w'=>∃v,e=Rt (Ag #[Bb (g.n||h.n),Bb (bp g.sp h.sp).n,I Y (bp g.sp h.sp).lo,I Y (bp g.sp h.sp).hi,Bb (g.t||h.t),Bb (g.f||h.f),v])/\w'.ownsRow w.heap.size 3 1 v (bI g.s h.s 60).length ((bI g.s h.s 60).map (.int .i64))/\bl w w':=by
 obtain⟨ti,hi,hz0,hz1,hz2⟩:=info_parts Tryz.info_intG;obtain⟨G0,H0,B0⟩:=Hf w g ss gc h st hc;have G1:=IL;have H1:=Ht;have B1:=Hr;have R1:GuAt (((w.alloc (Cc #[Bb g.n,Bb g.sp.n,I Y g.sp.lo,I Y g.sp.hi,Bb g.t,Bb g.f,U ss g.s.length gc] 91)).alloc (Cc #[Bb h.n,Bb h.sp.n,I Y h.sp.lo,I Y h.sp.hi,Bb h.t,Bb h.f,U st h.s.length hc] 91)).alloc (Cc #[Bb false,Bb false,I Y 0,I Y 0,Bb false,Bb false,U nO 0 0] 91)) (w.heap.size+1+1) 0 bG nO 0:=by
  have:=GuAt.new ((w.alloc (Cc #[Bb g.n,Bb g.sp.n,I Y g.sp.lo,I Y g.sp.hi,Bb g.t,Bb g.f,U ss g.s.length gc] 91)).alloc (Cc #[Bb h.n,Bb h.sp.n,I Y h.sp.lo,I Y h.sp.hi,Bb h.t,Bb h.f,U st h.s.length hc] 91)) bG nO 0;simp only[zA] at this;exact this
 have F1:=Gn;have HJ:=ag (λw=>Id g.sp h.sp w);generalize bp g.sp h.sp=J at HJ |-;exact Br
theorem Vl (V F:Int)(s:oA)(c:lI)(cap:Nat)(g:Gs)(ss:oA)(gc:Nat)(h:Gs)(st:oA)(hc:Nat)(kind:Int)(w:World)
  (hcd:CodeAt w s c)(hs:IntsAt w ss g.s)(h1:g.s.length<=gc)(h2:gc<=maxLen)(ht:IntsAt w st h.s)(h3:h.s.length<=hc)(h4:hc<=maxLen)(hck:ba V F c [g,h]≠0):
  Calls pG 164 #[pv V F s c cap,I Y kind,gv g ss gc,gv h st hc] w λe w'=>e=Rt (Tu #[gv bG nO 0,Bb false,I Y (ba V F c [g,h])])/\bl w w':=by
 obtain⟨P0,G0,H0,R0,F0⟩:=dR;have B0:=dQ;have C0:=dW;have I0:=d7;have J0:=dV;have L0:=fB;simp only[zA] at L0;have HC:=k8;have hne:(ba V F c [g,h]!=0)=true:=by simpa using hck
 generalize ba V F c [g,h]=ce at HC hne |-;clear hck;go_enter func164,ntmps164;go_wp2_with fail;refine HC.out.mono ?_;rintro e w1 ⟨rfl,hb1⟩;have G1:=eT;have H1:=fE;have R1:=gD;have I1:=gh;have J1:=gd;have F1:=gG;have B1:=eX;clear hb1 G0 H0 R0 I0 J0 F0 B0 C0 P0 L0 hcd hs ht HC;obtain⟨⟨g0,g1,g2,g3,g4,g5,g6⟩,gz⟩:=id G1;obtain⟨⟨k0,k1,k2,k3,k4,k5,k6⟩,kz⟩:=id H1;simp only[j0] at g0 g1 g2 g3 g4 g5 g6 k0 k1 k2 k3 k4 k5 k6;obtain⟨⟨r0,r1,r2,r3,r4,r5,r6⟩,rz⟩:=id R1;simp only[j0,bG] at r0 r1 r2 r3 r4 r5 r6;have fz:=F1.1;go_wp2;refine bodyPost_ret (v:=Tu #[gv bG nO 0,Bb false,I Y ce]) MI rfl ⟨rfl,?_⟩;exact bC B1 aa

theorem TG (V F:Int)(s:oA)(c:lI)(cap:Nat)(g:Gs)(ss:oA)(gc:Nat)(h:Gs)(st:oA)(hc:Nat)(kind:Int)(w:World)
  (hcd:CodeAt w s c)(hs:IntsAt w ss g.s)(h1:g.s.length<=gc)(h2:gc<=maxLen)(ht:IntsAt w st h.s)(h3:h.s.length<=hc)(h4:hc<=maxLen)(hck:ba V F c [g,h]=0)(hk4:(kind==4)=false)(hk5:(kind==5)=false)(hk6:(kind==6)=false)(hk7:(kind==7)=false)(hk8:(kind==8)=false)(hk9:(kind==9)=false)(hk10:(kind==10)=false):
  Calls pG 164 #[pv V F s c cap,I Y kind,gv g ss gc,gv h st hc] w λe w'=>e=Rt (Tu #[gv bG nO 0,Bb false,I Y 6])/\bl w w':=by
 obtain⟨P0,G0,H0,R0,F0⟩:=dR;have B0:=dQ;have C0:=dW;have I0:=d7;have J0:=dV;have L0:=fB;simp only[zA] at L0;have HC:=k8;rw[hck] at HC;go_enter func164,ntmps164;go_wp2_with fail;refine HC.out.mono ?_;rintro e w1 ⟨rfl,hb1⟩;have G1:=eT;have H1:=fE;have R1:=gD;have I1:=gh;have J1:=gd;have F1:=gG;have B1:=eX;clear hb1 G0 H0 R0 I0 J0 F0 B0 C0 P0 L0 hcd hs ht HC;obtain⟨⟨g0,g1,g2,g3,g4,g5,g6⟩,gz⟩:=id G1;obtain⟨⟨k0,k1,k2,k3,k4,k5,k6⟩,kz⟩:=id H1;simp only[j0] at g0 g1 g2 g3 g4 g5 g6 k0 k1 k2 k3 k4 k5 k6;obtain⟨⟨r0,r1,r2,r3,r4,r5,r6⟩,rz⟩:=id R1;simp only[j0,bG] at r0 r1 r2 r3 r4 r5 r6;have fz:=F1.1;go_wp2;refine bodyPost_ret (v:=Tu #[gv bG nO 0,Bb false,I Y 6]) MI rfl ⟨rfl,?_⟩;exact bC B1 aa

theorem Uy (V F:Int)(s:oA)(c:lI)(cap:Nat)(g:Gs)(ss:oA)(gc:Nat)(h:Gs)(st:oA)(hc:Nat)(w:World)
  (hcd:CodeAt w s c)(hs:IntsAt w ss g.s)(h1:g.s.length<=gc)(h2:gc<=maxLen)(ht:IntsAt w st h.s)(h3:h.s.length<=hc)(h4:hc<=maxLen)(hck:ba V F c [g,h]=0)(y n:Bool)(hS:∀wx,bl w wx->Calls pG 206 #[gv g ss gc,gv h st hc] wx λe w'=>e=Rt (Tu #[Bb y,Bb n])/\bl wx w'):
  Calls pG 164 #[pv V F s c cap,I Y 9,gv g ss gc,gv h st hc] w λe w'=>e=Rt (Tu #[gv ⟨false,⟨true,0,0⟩,y,n,[]⟩ nO 0,Bb false,I Y 0])/\bl w w':=by
 obtain⟨P0,G0,H0,R0,F0⟩:=dR;have B0:=dQ;have C0:=dW;have I0:=d7;have J0:=dV;have L0:=fB;simp only[zA] at L0;have HC:=k8;rw[hck] at HC;have HS:=ag hS;clear hS;go_enter func164,ntmps164;go_wp2_with fail;refine HC.out.mono ?_;rintro e w1 ⟨rfl,hb1⟩;have G1:=eT;have H1:=fE;have R1:=gD;have I1:=gh;have J1:=gd;have F1:=gG;have B1:=eX;clear hb1 G0 H0 R0 I0 J0 F0 B0 C0 P0 L0 hcd hs ht HC;obtain⟨⟨g0,g1,g2,g3,g4,g5,g6⟩,gz⟩:=id G1;obtain⟨⟨k0,k1,k2,k3,k4,k5,k6⟩,kz⟩:=id H1;simp only[j0] at g0 g1 g2 g3 g4 g5 g6 k0 k1 k2 k3 k4 k5 k6;go_wp2_with fail;refine(HS.out _ B1).mono ?_;rintro e w2 ⟨rfl,hb2⟩;have R2:=R1.call hb2;have F2:=F1.call hb2;have B2:=gH;clear hb2;go_wp2_with fail;refine(mt _ _ _).mono ?_;rintro e w3 ⟨rfl,hb3⟩;have R3:=R2.call hb3;have F3:=F2.call hb3;have B3:=fH;clear hb3;obtain⟨⟨r0,r1,r2,r3,r4,r5,r6⟩,rz⟩:=id R3;simp only[j0,bG] at r0 r1 r2 r3 r4 r5 r6;have fz:=F3.1;go_wp2;refine bodyPost_ret (v:=Tu #[gv ⟨false,⟨true,0,0⟩,y,n,[]⟩ nO 0,Bb false,I Y 0]) uB rfl ⟨rfl,?_⟩;exact bC B3 aa

theorem Wj (V F:Int)(s:oA)(c:lI)(cap:Nat)(g:Gs)(ss:oA)(gc:Nat)(h:Gs)(st:oA)(hc:Nat)(w:World)
  (hcd:CodeAt w s c)(hs:IntsAt w ss g.s)(h1:g.s.length<=gc)(h2:gc<=maxLen)(ht:IntsAt w st h.s)(h3:h.s.length<=hc)(h4:hc<=maxLen)(hck:ba V F c [g,h]=0)(hsp:cE g.sp=0):
  Calls pG 164 #[pv V F s c cap,I Y 10,gv g ss gc,gv h st hc] w λe w'=>e=Rt (Tu #[gv ⟨false,⟨true,0,0⟩,cQ g,cd g,[]⟩ nO 0,Bb false,I Y 0])/\bl w w':=by
 obtain⟨P0,G0,H0,R0,F0⟩:=dR;have B0:=dQ;have C0:=dW;have I0:=d7;have J0:=dV;have L0:=fB;simp only[zA] at L0;have HC:=k8;rw[hck] at HC;have HS:=ag (λw=>AH g ss gc w hsp);generalize cd g=y at HS |-;generalize cQ g=n at HS |-;clear hsp;go_enter func164,ntmps164;go_wp2_with fail;refine HC.out.mono ?_;rintro e w1 ⟨rfl,hb1⟩;have G1:=eT;have H1:=fE;have R1:=gD;have I1:=gh;have J1:=gd;have F1:=gG;have B1:=eX;clear hb1 G0 H0 R0 I0 J0 F0 B0 C0 P0 L0 hcd hs ht HC;obtain⟨⟨g0,g1,g2,g3,g4,g5,g6⟩,gz⟩:=id G1;obtain⟨⟨k0,k1,k2,k3,k4,k5,k6⟩,kz⟩:=id H1;simp only[j0] at g0 g1 g2 g3 g4 g5 g6 k0 k1 k2 k3 k4 k5 k6;go_wp2_with fail;refine(HS.out _).mono ?_;rintro e w2 ⟨rfl,hb2⟩;have R2:=R1.call hb2;have F2:=F1.call hb2;have B2:=gH;clear hb2;go_wp2_with fail;refine(mt _ _ _).mono ?_;rintro e w3 ⟨rfl,hb3⟩;have R3:=R2.call hb3;have F3:=F2.call hb3;have B3:=fH;clear hb3;obtain⟨⟨r0,r1,r2,r3,r4,r5,r6⟩,rz⟩:=id R3;simp only[j0,bG] at r0 r1 r2 r3 r4 r5 r6;have fz:=F3.1;go_wp2;refine bodyPost_ret (v:=Tu #[gv ⟨false,⟨true,0,0⟩,n,y,[]⟩ nO 0,Bb false,I Y 0]) uB rfl ⟨rfl,?_⟩;exact bC B3 aa
theorem NN (ss:oA)(cap:Nat)(l:List Int)(w:World)(hl:l.length<=1000000)(hs:IntsAt w ss l):
  Calls pG 179 #[U ss l.length cap] w λe w'=>∃v,e=Rt v/\w'.ownsRow w.heap.size 3 1 v l.length (l.map (.int .i64))/\bl w w':=by
 cases ss with
 |none=>
  have h0:l=[]:=by
   rcases hs with h|⟨_,_,h,_⟩
   ·exact h
   ·cases h
  subst h0;refine(Tryz.slices_Clone_int_nil _ _ _).mono ?_;rintro e w' ⟨rfl,rfl⟩;exact⟨_,rfl,⟨rfl,.inl ⟨rfl,rfl⟩⟩,bR _ _⟩
 |some a=>
  by_cases h0:l=[]
  ·subst h0
   refine(Tryz.slices_Clone_int_zero a cap w).mono ?_;rintro e w' ⟨v,rfl,ho,-,hb⟩;exact⟨_,rfl,ho,hb⟩
  ·obtain⟨b,off,e,hb,hc⟩:=hs.get 0 (List.length_pos_iff.2 h0)
   cases e;refine(Tryz.slices_Clone_int b off l.length cap l w (lR _) aa (λj hj=> ?_)).mono ?_
   ·rw[hc j hj]
    simp[List.getD,J2 hj]
   ·rintro e w' ⟨v,rfl,ho,-,hb'⟩
    rw[List.take_length] at ho;exact⟨_,rfl,ho,hb'⟩

theorem WQ (V F:Int)(s:oA)(c:lI)(cap:Nat)(g:Gs)(ss:oA)(gc:Nat)(h:Gs)(st:oA)(hc:Nat)(w:World)
  (hcd:CodeAt w s c)(hs:IntsAt w ss g.s)(h1:g.s.length<=gc)(h2:gc<=maxLen)(ht:IntsAt w st h.s)(h3:h.s.length<=hc)(h4:hc<=maxLen)(hck:ba V F c [g,h]=0)(hlen:g.s.length<=1000000):
  Calls pG 164 #[pv V F s c cap,I Y 4,gv g ss gc,gv h st hc] w λe w'=>∃v,e=Rt (Tu #[Ag #[Bb g.n,Bb g.sp.n,I Y g.sp.lo,I Y g.sp.hi,Bb g.t,Bb g.f,v],Bb false,I Y 0])/\w'.ownsRow w.heap.size 3 1 v g.s.length (g.s.map (.int .i64))/\bl w w':=by
 obtain⟨P0,G0,H0,R0,F0⟩:=dR;have B0:=dQ;have C0:=dW;have I0:=d7;have J0:=dV;have L0:=fB;simp only[zA] at L0;have HC:=k8;have FG:Fr7 (nE w V F s c cap g ss gc h st hc) (w.heap.size+1):=⟨λj=>aX,ah⟩;rw[hck] at HC;go_enter func164,ntmps164;go_wp2_with fail;refine HC.out.mono ?_;rintro e w1 ⟨rfl,hb1⟩;have G1:=eT;have H1:=fE;have R1:=gD;have I1:=gh;have J1:=gd;have F1:=gG;have B1:=eX;have X1:Fr7 w1 (w.heap.size+1):=(FG.alloc _).call hb1;clear hb1 FG G0 H0 R0 I0 J0 F0 B0 C0 P0 L0 hcd hs ht HC;obtain⟨⟨g0,g1,g2,g3,g4,g5,g6⟩,gz⟩:=id G1;obtain⟨⟨k0,k1,k2,k3,k4,k5,k6⟩,kz⟩:=id H1;simp only[j0] at g0 g1 g2 g3 g4 g5 g6 k0 k1 k2 k3 k4 k5 k6;go_wp2_with fail;refine(NN ss gc g.s _ hlen I1).mono ?_;rintro e w2 ⟨v,rfl,hown,hb2⟩;have G2:=G1.call hb2;have R2:=R1.call hb2;have F2:=F1.call hb2;have X2:=X1.call hb2;have B2:=gH;have z2:=F1.2;clear hb2 g0 g1 g2 g3 g4 g5 g6 gz k0 k1 k2 k3 k4 k5 k6 kz;have O2:=hown;obtain⟨vs,vc,hv,-,-,-,-⟩:=ip;subst hv;obtain⟨⟨g0,g1,g2,g3,g4,g5,g6⟩,gz⟩:=id G2;simp only[j0] at g0 g1 g2 g3 g4 g5 g6;have fx:=X2.1;obtain⟨⟨r0,r1,r2,r3,r4,r5,r6⟩,rz⟩:=id R2;simp only[j0,bG] at r0 r1 r2 r3 r4 r5 r6;have fz:=F2.1;clear hown;go_wp2;refine bodyPost_ret (v:=Tu #[Ag #[Bb g.n,Bb g.sp.n,I Y g.sp.lo,I Y g.sp.hi,Bb g.t,Bb g.f,U vs g.s.length vc],Bb false,I Y 0]) (by simp[results,results164,go_sem,r0,r1,r2,r3,r4,r5,r6,g0,g1,g2,g3,g4,g5,g6]) rfl ⟨_,rfl,?_,?_⟩
 ·exact gr (gw (o8 O2 aa) aa) aa
 ·exact bC (B2.setCell (by show w.heap.size<=w.heap.size+1;omega) _) aa
def TJ (w:World)(g:Gs)(ss:oA)(gc:Nat)(h:Gs)(st:oA)(hc:Nat)(w':World):Prop:=
 (w'.cell? ⟨w.heap.size+1,0,nO⟩=sO (Bb g.n)/\w'.cell? ⟨w.heap.size+1,1,nO⟩=sO (Bb g.sp.n)/\w'.cell? ⟨w.heap.size+1,2,nO⟩=sO (I Y g.sp.lo)/\w'.cell? ⟨w.heap.size+1,3,nO⟩=sO (I Y g.sp.hi)/\w'.cell? ⟨w.heap.size+1,4,nO⟩=sO (Bb g.t)/\w'.cell? ⟨w.heap.size+1,5,nO⟩=sO (Bb g.f)/\w'.cell? ⟨w.heap.size+1,6,nO⟩=sO (U ss g.s.length gc))/\
 (w'.cell? ⟨w.heap.size+1+1,0,nO⟩=sO (Bb h.n)/\w'.cell? ⟨w.heap.size+1+1,1,nO⟩=sO (Bb h.sp.n)/\w'.cell? ⟨w.heap.size+1+1,2,nO⟩=sO (I Y h.sp.lo)/\w'.cell? ⟨w.heap.size+1+1,3,nO⟩=sO (I Y h.sp.hi)/\w'.cell? ⟨w.heap.size+1+1,4,nO⟩=sO (Bb h.t)/\w'.cell? ⟨w.heap.size+1+1,5,nO⟩=sO (Bb h.f)/\w'.cell? ⟨w.heap.size+1+1,6,nO⟩=sO (U st h.s.length hc))

theorem BO {p:Prop}(h:p:=by
 refine rH1 11 λK hK=> ?_;go_simp;refine(HW.out _ 2 _ L5).mono ?_;rintro e w6 ⟨rfl,hb6⟩;have G6:=G5.call hb6;have H6:=H5.call hb6;have R6:=R5.call hb6;have F6:=F5.call hb6;have L6:=L5.call hb6;have B6:=pR;refine hK.out _ _ (KS _ G6 H6) (λhHeld6=> ?_);clear hK K hb6;refine sm ?_;obtain⟨⟨r0,r1,r2,r3,r4,r5,r6⟩,rz⟩:=id R6;simp only[Nat.zero_add,bG] at r0 r1 r2 r3 r4 r5 r6;have fz:=F6.1;refine rH1 12 λK hK=> ?_;go_simp;refine hK.out _ _ (KS _ (G6.put7 aa) (H6.put7 aa)) (λhHeldz=> ?_);clear hK K;refine sm ?_;refine vH 13 ?_ ?_;refine vH 14 ?_ ?_;refine wpAnyH_done ae ?_ _;go_wp2;refine bodyPost_ret (v:=.tuple #[gv ⟨false,⟨true,0,0⟩,y,n,[]⟩ none 0,.bool wr,.int .i64 0]) uB rfl ⟨rfl,?_⟩;exact bC B6 aa):p:=h
theorem AY {p:Prop}(h:p:=by
 refine rH1 7 λK hK=> ?_;go_simp;refine(mt _ _ _).mono ?_;rintro e w5 ⟨rfl,hb5⟩;have G5:=G4.call hb5;have H5:=H4.call hb5;have R5:=R4.call hb5;have F5:=F4.call hb5;have L5:=L4.call hb5;have B5:=kY;refine hK.out _ _ (KS _ G5 H5) (λhHeld5=> ?_);clear hK K hb5;refine sm ?_;exact BO):p:=h
theorem WO (V F:Int)(s:oA)(c:lI)(cap:Nat)(g:Gs)(ss:oA)(gc:Nat)(h:Gs)(st:oA)(hc:Nat)(w:World)
  (hcd:CodeAt w s c)(hs:IntsAt w ss g.s)(h1:g.s.length<=gc)(h2:gc<=maxLen)(ht:IntsAt w st h.s)(h3:h.s.length<=hc)(h4:hc<=maxLen)(hck:ba V F c [g,h]=0):
  Calls pG 164 #[pv V F s c cap,I Y 8,gv g ss gc,gv h st hc] w λe w'=>e=Rt (Tu #[gv ⟨false,⟨true,0,0⟩,!(g.sp.n||h.sp.n)&&decide (g.sp.lo < h.sp.hi),!(g.sp.n||h.sp.n)&&decide (h.sp.lo<=g.sp.hi),[]⟩ nO 0,Bb ([g,h].any aP&& ![g,h].any an),I Y 0])/\bl w w':=by
 obtain⟨P0,G0,H0,R0,F0⟩:=dR;have B0:=dQ;have C0:=dW;have I0:=d7;have J0:=dV;have L0:=fB;simp only[zA] at L0;have HC:=k8;rw[hck] at HC;have HL:=ag (λw=>TZ g.sp h.sp w);generalize (!(g.sp.n||h.sp.n)&&decide (g.sp.lo < h.sp.hi))=y at HL |-;generalize (!(g.sp.n||h.sp.n)&&decide (h.sp.lo<=g.sp.hi))=n at HL |-;have HW:=ag (λls lc w hL=>vW ls [g,h] lc w ah hL);generalize ([g,h].any aP&& ![g,h].any an)=wr at HW |-;go_enter func164,ntmps164;go_wp2_with fail;refine HC.out.mono ?_;rintro e w1 ⟨rfl,hb1⟩;have G1:=eT;have H1:=fE;have R1:=gD;have I1:=gh;have J1:=gd;have F1:=gG;have B1:=eX;clear hb1 G0 H0 R0 I0 J0 F0 B0 C0 P0 L0 hcd hs ht HC;clear I1 J1;obtain⟨⟨g0,g1,g2,g3,g4,g5,g6⟩,gz⟩:=id G1;obtain⟨⟨k0,k1,k2,k3,k4,k5,k6⟩,kz⟩:=id H1;simp only[j0] at g0 g1 g2 g3 g4 g5 g6 k0 k1 k2 k3 k4 k5 k6;go_wp2;have KS:∀wx,GuAt wx (w.heap.size+1) 0 g ss gc->GuAt wx (w.heap.size+1+1) 0 h st hc->TJ w g ss gc h st hc wx:=λwx a b=>⟨by simpa using a.1,by simpa using b.1⟩;have G2:=G1.drew;have H2:=H1.drew;have R2:=R1.drew;have F2:=F1.drew;have B2:=B1.drew;refine wp_region_held_drew (S:=TJ w g ss gc h st hc) ae (KS _ G2 H2) (λhHeld=> ?_);unfold TJ at hHeld KS |-;clear G1 H1 R1 F1 B1 g0 g1 g2 g3 g4 g5 g6 gz k0 k1 k2 k3 k4 k5 k6 kz;generalize w1.drew=w2 at *;refine vH 0 ?_ ?_;refine vH 1 ?_ ?_;refine vH 2 ?_ ?_;refine vH 3 ?_ ?_;refine vH 8 ?_ ?_;refine vH 9 ?_ ?_;refine wpAnyH_ready (rs:=[4,10]) ae ah ?_;refine AllReadyH.cons rfl (λK hK=> ?_) (AllReadyH.cons rfl (λK hK=> ?_) AllReadyH.nil)
 ·go_simp
  refine(HL.out _).mono ?_;rintro e w3 ⟨rfl,hb3⟩;have G3:=G2.call hb3;have H3:=H2.call hb3;have R3:=R2.call hb3;have F3:=F2.call hb3;have B3:=fH;refine hK.out _ _ (KS _ G3 H3) (λhHeld3=> ?_);clear hK K hb3;refine sm ?_;refine vH 5 ?_ ?_;refine vH 6 ?_ ?_;refine wpAnyH_ready (rs:=[7,10]) ae ah ?_;refine AllReadyH.cons rfl (λK hK=> ?_) (AllReadyH.cons rfl (λK hK=> ?_) AllReadyH.nil)
  ·go_simp
   refine(mt _ _ _).mono ?_;rintro e w4 ⟨rfl,hb4⟩;have G4:=G3.call hb4;have H4:=H3.call hb4;have R4:=R3.call hb4;have F4:=F3.call hb4;have B4:=li;refine hK.out _ _ (KS _ G4 H4) (λhHeld4=> ?_);clear hK K hb4;refine sm ?_;refine rH1 10 λK hK=> ?_;go_simp;have G5:=G4.alloc (Cc #[Bb g.n,Bb g.sp.n,I Y g.sp.lo,I Y g.sp.hi,Bb g.t,Bb g.f,U ss g.s.length gc,Bb h.n,Bb h.sp.n,I Y h.sp.lo,I Y h.sp.hi,Bb h.t,Bb h.f,U st h.s.length hc] 91);have H5:=H4.alloc (Cc #[Bb g.n,Bb g.sp.n,I Y g.sp.lo,I Y g.sp.hi,Bb g.t,Bb g.f,U ss g.s.length gc,Bb h.n,Bb h.sp.n,I Y h.sp.lo,I Y h.sp.hi,Bb h.t,Bb h.f,U st h.s.length hc] 91);have R5:=R4.alloc (Cc #[Bb g.n,Bb g.sp.n,I Y g.sp.lo,I Y g.sp.hi,Bb g.t,Bb g.f,U ss g.s.length gc,Bb h.n,Bb h.sp.n,I Y h.sp.lo,I Y h.sp.hi,Bb h.t,Bb h.f,U st h.s.length hc] 91);have F5:=F4.alloc (Cc #[Bb g.n,Bb g.sp.n,I Y g.sp.lo,I Y g.sp.hi,Bb g.t,Bb g.f,U ss g.s.length gc,Bb h.n,Bb h.sp.n,I Y h.sp.lo,I Y h.sp.hi,Bb h.t,Bb h.f,U st h.s.length hc] 91);have B5:=B4.alloc B4.size (Cc #[Bb g.n,Bb g.sp.n,I Y g.sp.lo,I Y g.sp.hi,Bb g.t,Bb g.f,U ss g.s.length gc,Bb h.n,Bb h.sp.n,I Y h.sp.lo,I Y h.sp.hi,Bb h.t,Bb h.f,U st h.s.length hc] 91);have L5:=GhAt.new2 w4 g ss gc h st hc;refine hK.out _ _ (KS _ G5 H5) (λhHeld5=> ?_);clear hK K;refine sm ?_;unfold uk at L5;generalize w4.alloc (Cc #[Bb g.n,Bb g.sp.n,I Y g.sp.lo,I Y g.sp.hi,Bb g.t,Bb g.f,U ss g.s.length gc,Bb h.n,Bb h.sp.n,I Y h.sp.lo,I Y h.sp.hi,Bb h.t,Bb h.f,U st h.s.length hc] 91)=w5 at *;generalize w4.heap.size=sb at *;exact BO
  ·go_simp
   have G4:=KO;have H4:=Kw;have R4:=Kf;have F4:=Ha;have B4:=B3.alloc B3.size (Cc #[Bb g.n,Bb g.sp.n,I Y g.sp.lo,I Y g.sp.hi,Bb g.t,Bb g.f,U ss g.s.length gc,Bb h.n,Bb h.sp.n,I Y h.sp.lo,I Y h.sp.hi,Bb h.t,Bb h.f,U st h.s.length hc] 91);have L4:=GhAt.new2 w3 g ss gc h st hc;refine hK.out _ _ (KS _ G4 H4) (λhHeld4=> ?_);clear hK K;refine sm ?_;unfold uk at L4;generalize w3.alloc (Cc #[Bb g.n,Bb g.sp.n,I Y g.sp.lo,I Y g.sp.hi,Bb g.t,Bb g.f,U ss g.s.length gc,Bb h.n,Bb h.sp.n,I Y h.sp.lo,I Y h.sp.hi,Bb h.t,Bb h.f,U st h.s.length hc] 91)=w4 at *;generalize w3.heap.size=sb at *;exact AY
 ·go_simp
  have G3:=G2.alloc (Cc #[Bb g.n,Bb g.sp.n,I Y g.sp.lo,I Y g.sp.hi,Bb g.t,Bb g.f,U ss g.s.length gc,Bb h.n,Bb h.sp.n,I Y h.sp.lo,I Y h.sp.hi,Bb h.t,Bb h.f,U st h.s.length hc] 91);have H3:=H2.alloc (Cc #[Bb g.n,Bb g.sp.n,I Y g.sp.lo,I Y g.sp.hi,Bb g.t,Bb g.f,U ss g.s.length gc,Bb h.n,Bb h.sp.n,I Y h.sp.lo,I Y h.sp.hi,Bb h.t,Bb h.f,U st h.s.length hc] 91);have R3:=R2.alloc (Cc #[Bb g.n,Bb g.sp.n,I Y g.sp.lo,I Y g.sp.hi,Bb g.t,Bb g.f,U ss g.s.length gc,Bb h.n,Bb h.sp.n,I Y h.sp.lo,I Y h.sp.hi,Bb h.t,Bb h.f,U st h.s.length hc] 91);have F3:=F2.alloc (Cc #[Bb g.n,Bb g.sp.n,I Y g.sp.lo,I Y g.sp.hi,Bb g.t,Bb g.f,U ss g.s.length gc,Bb h.n,Bb h.sp.n,I Y h.sp.lo,I Y h.sp.hi,Bb h.t,Bb h.f,U st h.s.length hc] 91);have B3:=B2.alloc B2.size (Cc #[Bb g.n,Bb g.sp.n,I Y g.sp.lo,I Y g.sp.hi,Bb g.t,Bb g.f,U ss g.s.length gc,Bb h.n,Bb h.sp.n,I Y h.sp.lo,I Y h.sp.hi,Bb h.t,Bb h.f,U st h.s.length hc] 91);have L3:=GhAt.new2 w2 g ss gc h st hc;refine hK.out _ _ (KS _ G3 H3) (λhHeld3=> ?_);clear hK K;refine sm ?_;unfold uk at L3;generalize w2.alloc (Cc #[Bb g.n,Bb g.sp.n,I Y g.sp.lo,I Y g.sp.hi,Bb g.t,Bb g.f,U ss g.s.length gc,Bb h.n,Bb h.sp.n,I Y h.sp.lo,I Y h.sp.hi,Bb h.t,Bb h.f,U st h.s.length hc] 91)=w3 at *;generalize w2.heap.size=sb at *;refine rH1 4 λK hK=> ?_;go_simp;refine(HL.out _).mono ?_;rintro e w4 ⟨rfl,hb4⟩;have G4:=G3.call hb4;have H4:=H3.call hb4;have R4:=R3.call hb4;have F4:=F3.call hb4;have L4:=L3.call hb4;have B4:=li;refine hK.out _ _ (KS _ G4 H4) (λhHeld4=> ?_);clear hK K hb4;refine sm ?_;refine vH 5 ?_ ?_;refine vH 6 ?_ ?_;exact AY
def DG (w:World)(g:Gs)(ss:oA)(gc:Nat)(h:Gs)(st:oA)(hc:Nat)(ob:Nat)(o:Gs)(wx:World):Prop:=
 GuAt wx w.heap.size 0 g ss gc/\GuAt wx (w.heap.size+1) 0 h st hc/\GuAt wx (w.heap.size+1+1) 0 bG nO 0/\Fr7 wx (w.heap.size+1+1)/\GuAt wx ob 0 o nO 0/\Fr7 wx ob/\bl w wx/\w.heap.size+1+1 < ob
theorem DG.call {w:World}{g:Gs}{ss:oA}{gc:Nat}{h:Gs}{st:oA}{hc:Nat}{ob:Nat}{o:Gs}{wx wy:World}(d:DG w g ss gc h st hc ob o wx)(hb:bl wx wy):DG w g ss gc h st hc ob o wy:=
 ⟨d.1.call hb,d.2.1.call hb,d.2.2.1.call hb,d.2.2.2.1.call hb,d.2.2.2.2.1.call hb,d.2.2.2.2.2.1.call hb,d.2.2.2.2.2.2.1.trans (hb.mono d.2.2.2.2.2.2.1.size),d.2.2.2.2.2.2.2⟩
theorem DG.drew {w:World}{g:Gs}{ss:oA}{gc:Nat}{h:Gs}{st:oA}{hc:Nat}{ob:Nat}{o:Gs}{wx:World}(d:DG w g ss gc h st hc ob o wx):DG w g ss gc h st hc ob o wx.drew:=d.call (bR _ _).drew

theorem Wp (w:World)(g:Gs)(ss:oA)(gc:Nat)(h:Gs)(st:oA)(hc:Nat):GuAt (((w.alloc (Cc #[Bb g.n,Bb g.sp.n,I Y g.sp.lo,I Y g.sp.hi,Bb g.t,Bb g.f,U ss g.s.length gc] 91)).alloc (Cc #[Bb h.n,Bb h.sp.n,I Y h.sp.lo,I Y h.sp.hi,Bb h.t,Bb h.f,U st h.s.length hc] 91)).alloc (Cc #[Bb false,Bb false,I Y 0,I Y 0,Bb false,Bb false,U nO 0 0] 91)) w.heap.size 0 g ss gc/\GuAt (((w.alloc (Cc #[Bb g.n,Bb g.sp.n,I Y g.sp.lo,I Y g.sp.hi,Bb g.t,Bb g.f,U ss g.s.length gc] 91)).alloc (Cc #[Bb h.n,Bb h.sp.n,I Y h.sp.lo,I Y h.sp.hi,Bb h.t,Bb h.f,U st h.s.length hc] 91)).alloc (Cc #[Bb false,Bb false,I Y 0,I Y 0,Bb false,Bb false,U nO 0 0] 91)) (w.heap.size+1) 0 h st hc/\GuAt (((w.alloc (Cc #[Bb g.n,Bb g.sp.n,I Y g.sp.lo,I Y g.sp.hi,Bb g.t,Bb g.f,U ss g.s.length gc] 91)).alloc (Cc #[Bb h.n,Bb h.sp.n,I Y h.sp.lo,I Y h.sp.hi,Bb h.t,Bb h.f,U st h.s.length hc] 91)).alloc (Cc #[Bb false,Bb false,I Y 0,I Y 0,Bb false,Bb false,U nO 0 0] 91)) (w.heap.size+1+1) 0 bG nO 0/\Fr7 (((w.alloc (Cc #[Bb g.n,Bb g.sp.n,I Y g.sp.lo,I Y g.sp.hi,Bb g.t,Bb g.f,U ss g.s.length gc] 91)).alloc (Cc #[Bb h.n,Bb h.sp.n,I Y h.sp.lo,I Y h.sp.hi,Bb h.t,Bb h.f,U st h.s.length hc] 91)).alloc (Cc #[Bb false,Bb false,I Y 0,I Y 0,Bb false,Bb false,U nO 0 0] 91)) (w.heap.size+1+1)/\bl w (((w.alloc (Cc #[Bb g.n,Bb g.sp.n,I Y g.sp.lo,I Y g.sp.hi,Bb g.t,Bb g.f,U ss g.s.length gc] 91)).alloc (Cc #[Bb h.n,Bb h.sp.n,I Y h.sp.lo,I Y h.sp.hi,Bb h.t,Bb h.f,U st h.s.length hc] 91)).alloc (Cc #[Bb false,Bb false,I Y 0,I Y 0,Bb false,Bb false,U nO 0 0] 91)):=by
 obtain⟨G0,H0,B0⟩:=Hf w g ss gc h st hc;have R0:=GuAt.new ((w.alloc (Cc #[Bb g.n,Bb g.sp.n,I Y g.sp.lo,I Y g.sp.hi,Bb g.t,Bb g.f,U ss g.s.length gc] 91)).alloc (Cc #[Bb h.n,Bb h.sp.n,I Y h.sp.lo,I Y h.sp.hi,Bb h.t,Bb h.f,U st h.s.length hc] 91)) bG nO 0;rw[zA,zA] at R0;exact⟨G0.alloc _,H0.alloc _,R0,⟨λj=>aX,ah⟩,am⟩
theorem mI {w:World}{g:Gs}{ss:oA}{gc:Nat}{h:Gs}{st:oA}{hc:Nat}{w1:World}(hb:Below (((w.alloc (Cc #[Bb g.n,Bb g.sp.n,I Y g.sp.lo,I Y g.sp.hi,Bb g.t,Bb g.f,U ss g.s.length gc] 91)).alloc (Cc #[Bb h.n,Bb h.sp.n,I Y h.sp.lo,I Y h.sp.hi,Bb h.t,Bb h.f,U st h.s.length hc] 91)).alloc (Cc #[Bb false,Bb false,I Y 0,I Y 0,Bb false,Bb false,U nO 0 0] 91)).heap.size (((w.alloc (Cc #[Bb g.n,Bb g.sp.n,I Y g.sp.lo,I Y g.sp.hi,Bb g.t,Bb g.f,U ss g.s.length gc] 91)).alloc (Cc #[Bb h.n,Bb h.sp.n,I Y h.sp.lo,I Y h.sp.hi,Bb h.t,Bb h.f,U st h.s.length hc] 91)).alloc (Cc #[Bb false,Bb false,I Y 0,I Y 0,Bb false,Bb false,U nO 0 0] 91)) w1):DG w g ss gc h st hc w1.heap.size noneG (w1.alloc (Cc #[Bb noneG.n,Bb noneG.sp.n,I Y noneG.sp.lo,I Y noneG.sp.hi,Bb noneG.t,Bb noneG.f,U nO noneG.s.length 0] 91)):=by
 obtain⟨G0,H0,R0,F0,B0⟩:=Wp w g ss gc h st hc;have G1:=(G0.call hb).alloc (Cc #[Bb noneG.n,Bb noneG.sp.n,I Y noneG.sp.lo,I Y noneG.sp.hi,Bb noneG.t,Bb noneG.f,U nO noneG.s.length 0] 91);have H1:=(H0.call hb).alloc (Cc #[Bb noneG.n,Bb noneG.sp.n,I Y noneG.sp.lo,I Y noneG.sp.hi,Bb noneG.t,Bb noneG.f,U nO noneG.s.length 0] 91);have z:=(R0.call hb).2;have R1:=(R0.call hb).alloc (Cc #[Bb noneG.n,Bb noneG.sp.n,I Y noneG.sp.lo,I Y noneG.sp.hi,Bb noneG.t,Bb noneG.f,U nO noneG.s.length 0] 91);have F1:=(F0.call hb).alloc (Cc #[Bb noneG.n,Bb noneG.sp.n,I Y noneG.sp.lo,I Y noneG.sp.hi,Bb noneG.t,Bb noneG.f,U nO noneG.s.length 0] 91);have B1:=B0.trans (hb.mono B0.size);exact⟨G1,H1,R1,F1,GuAt.new w1 noneG nO 0,⟨λj=>aX,ah⟩,B1.alloc B1.size _,z⟩
theorem DG.out {w:World}{g:Gs}{ss:oA}{gc:Nat}{h:Gs}{st:oA}{hc:Nat}{ob:Nat}{o o':Gs}{wx wy:World}(d:DG w g ss gc h st hc ob o wx)(hb:∀k,k≠ob->wy.heap[k]? =wx.heap[k]?)(hz:wy.heap.size=wx.heap.size)(hf:Fr7 wy ob)(ho:GuAt wy ob 0 o' nO 0)(hB:bl w wy):DG w g ss gc h st hc ob o' wy:=by
 have hg:∀{k:Nat} {x:Gs} {xs:oA} {xc:Nat},k≠ob->GuAt wx k 0 x xs xc->GuAt wy k 0 x xs xc:=by
  intro k x xs xc hk hg;obtain⟨⟨h0,h1,h2,h3,h4,h5,h6⟩,hz'⟩:=hg;have hc:∀j,wy.cell? ⟨k,j,nO⟩=wx.cell? ⟨k,j,nO⟩:=λj=>z7 (a:=⟨k,j,nO⟩) (hb k hk);exact⟨⟨(hc _).trans h0,(hc _).trans h1,(hc _).trans h2,(hc _).trans h3,(hc _).trans h4,(hc _).trans h5,(hc _).trans h6⟩,by rw[hz];exact hz'⟩
 have z:=d.2.2.2.2.2.2.2;refine⟨hg aa d.1,hg aa d.2.1,hg aa d.2.2.1,⟨λj=> ?_,by rw[hz];exact d.2.2.2.1.2⟩,ho,hf,hB,z⟩;rw[z8 (a:=⟨w.heap.size+1+1,j,nO⟩) (hb _ (by show w.heap.size+1+1≠ob;omega))];exact d.2.2.2.1.1 j
theorem Av {p:Prop}(h:p:=by
 obtain⟨⟨h0,h1,h2,h3,h4,h5,h6⟩,hz⟩:=d.2.2.2.2.1;simp only[Nat.zero_add] at h0 h1 h2 h3 h4 h5 h6;exact⟨⟨by simp[go_sem,h0],by simp[go_sem,h1],by simp[go_sem,h2],by simp[go_sem,h3],by simp[go_sem,h4],by simp[go_sem,h5],by simp[go_sem,h6]⟩,fr⟩):p:=h
theorem Aw {p:Prop}(h:p:=by
 have z:=d.2.2.2.2.2.2.2;refine d.out (λk hk=>Below.heap_setCell _ _ _ _ hk) ah d.2.2.2.2.2.1.set ?_ (d.2.2.2.2.2.2.1.setCell ap _);exact Av):p:=h
theorem DG.t {w:World}{g:Gs}{ss:oA}{gc:Nat}{h:Gs}{st:oA}{hc:Nat}{ob:Nat}{o:Gs}{wx:World}{y:Bool}(d:DG w g ss gc h st hc ob o wx):DG w g ss gc h st hc ob ⟨o.n,o.sp,y,o.f,o.s⟩ (wx.setCell ⟨ob,4,nO⟩ (Bb y)):=by
 exact Aw
theorem DG.f {w:World}{g:Gs}{ss:oA}{gc:Nat}{h:Gs}{st:oA}{hc:Nat}{ob:Nat}{o:Gs}{wx:World}{y:Bool}(d:DG w g ss gc h st hc ob o wx):DG w g ss gc h st hc ob ⟨o.n,o.sp,o.t,y,o.s⟩ (wx.setCell ⟨ob,5,nO⟩ (Bb y)):=by
 exact Aw
theorem DG.sp {w:World}{g:Gs}{ss:oA}{gc:Nat}{h:Gs}{st:oA}{hc:Nat}{ob:Nat}{o:Gs}{wx:World}{s:Sp}(d:DG w g ss gc h st hc ob o wx):DG w g ss gc h st hc ob ⟨o.n,s,o.t,o.f,o.s⟩ (((wx.setCell ⟨ob,1,nO⟩ (Bb s.n)).setCell ⟨ob,2,nO⟩ (I Y s.lo)).setCell ⟨ob,3,nO⟩ (I Y s.hi)):=by
 have z:=d.2.2.2.2.2.2.2;refine d.out (λk hk=>by rw[hSe _ _ _ _ hk,hSe _ _ _ _ hk,hSe _ _ _ _ hk]) ah d.2.2.2.2.2.1.set.set.set ?_ (((d.2.2.2.2.2.2.1.setCell ap _).setCell ap _).setCell ap _);exact Av
theorem WN (w:World)(g:Gs)(ss:oA)(gc:Nat)(h:Gs)(st:oA)(hc:Nat):
  Calls pG 115 #[I Y 4,gv g ss gc,gv h st hc] w λe w'=>e=Rt (if an g=true then Tu #[gv noneG nO 0,Bb false] else Tu #[gv g ss gc,Bb false])/\bl w w':=by
 generalize hnn:an g=nn;have Hnn:=ag hnn;clear hnn;have HNg:=ie;have HNh:=iq;generalize an g=ng at *;generalize an h=nh at *;go_enter func115,ntmps115;go_upto_region 1 with fail
 go_cut [8] (λt wy=>∃ob,t=Pp (sO ⟨ob,0,nO⟩)/\DG w g ss gc h st hc ob noneG wy)
 case first=>
  go_wp2_with fail;refine(fD _).mono ?_;rintro e w1 ⟨rfl,hb1⟩;have D1:=mI hb1;go_wp2_with fail;go_meet;refine⟨w1.heap.size,rfl,?_⟩;exact D1
 obtain⟨ob,rfl,D1⟩:=hcut;obtain⟨⟨g0,g1,g2,g3,g4,g5,g6⟩,gz⟩:=id D1.1;simp only[j0] at g0 g1 g2 g3 g4 g5 g6;obtain⟨⟨k0,k1,k2,k3,k4,k5,k6⟩,kz⟩:=id D1.2.1;simp only[j0] at k0 k1 k2 k3 k4 k5 k6;have fz:=D1.2.2.2.1.1;have fo:=D1.2.2.2.2.2.1.1;have zo:=D1.2.2.2.2.2.2.2;go_upto_region 2 with fail
 go_cut [27] (λt wy=>t=Bb nn/\DG w g ss gc h st hc ob noneG wy)
 case first=>
  go_wp2_with fail;refine(HNg.out _).mono ?_;rintro e w2 ⟨rfl,hb2⟩;have D2:=D1.call hb2;clear g0 g1 g2 g3 g4 g5 g6 gz k0 k1 k2 k3 k4 k5 k6 kz fz fo;cases ng with
  |true=>
   go_wp2_with fail;go_meet;exact iU
  |false=>
   go_wp2_with fail;go_meet;exact iU
 obtain⟨rfl,D2⟩:=hcut;clear g0 g1 g2 g3 g4 g5 g6 gz k0 k1 k2 k3 k4 k5 k6 kz fz fo zo D1 HNg HNh Hnn;cases nn with
 |true=>
  obtain⟨⟨g0,g1,g2,g3,g4,g5,g6⟩,gz⟩:=id D2.1;simp only[j0] at g0 g1 g2 g3 g4 g5 g6;obtain⟨⟨r0,r1,r2,r3,r4,r5,r6⟩,rz⟩:=id D2.2.2.1;simp only[j0] at r0 r1 r2 r3 r4 r5 r6;obtain⟨⟨o0,o1,o2,o3,o4,o5,o6⟩,oz⟩:=id D2.2.2.2.2.1;simp only[j0] at o0 o1 o2 o3 o4 o5 o6;simp only[bG] at r0 r1 r2 r3 r4 r5 r6;have fz:=D2.2.2.2.1.1;have fo:=D2.2.2.2.2.2.1.1;have zo:=D2.2.2.2.2.2.2.2;simp only[noneG] at o0 o1 o2 o3 o4 o5 o6;go_wp2;refine bodyPost_ret (v:=Tu #[gv noneG nO 0,Bb false]) oR rfl ⟨?_,?_⟩
  ·rfl
  ·exact mU
 |false=>
  obtain⟨⟨g0,g1,g2,g3,g4,g5,g6⟩,gz⟩:=id D2.1;simp only[j0] at g0 g1 g2 g3 g4 g5 g6;obtain⟨⟨r0,r1,r2,r3,r4,r5,r6⟩,rz⟩:=id D2.2.2.1;simp only[j0] at r0 r1 r2 r3 r4 r5 r6;simp only[bG] at r0 r1 r2 r3 r4 r5 r6;have fz:=D2.2.2.2.1.1;have fo:=D2.2.2.2.2.2.1.1;have zo:=D2.2.2.2.2.2.2.2;go_wp2;refine bodyPost_ret (v:=Tu #[gv g ss gc,Bb false]) kn rfl ⟨?_,?_⟩
  ·rfl
  ·exact mU
def DT (b ob:Nat)(g:Gs)(ss:oA)(gc:Nat)(h:Gs)(st:oA)(hc:Nat)(o:Gs)(w':World):Prop:=
 (w'.cell? ⟨b,0,nO⟩=sO (Bb g.n)/\w'.cell? ⟨b,1,nO⟩=sO (Bb g.sp.n)/\w'.cell? ⟨b,2,nO⟩=sO (I Y g.sp.lo)/\w'.cell? ⟨b,3,nO⟩=sO (I Y g.sp.hi)/\w'.cell? ⟨b,4,nO⟩=sO (Bb g.t)/\w'.cell? ⟨b,5,nO⟩=sO (Bb g.f)/\w'.cell? ⟨b,6,nO⟩=sO (U ss g.s.length gc))/\(w'.cell? ⟨b+1,0,nO⟩=sO (Bb h.n)/\w'.cell? ⟨b+1,1,nO⟩=sO (Bb h.sp.n)/\w'.cell? ⟨b+1,2,nO⟩=sO (I Y h.sp.lo)/\w'.cell? ⟨b+1,3,nO⟩=sO (I Y h.sp.hi)/\w'.cell? ⟨b+1,4,nO⟩=sO (Bb h.t)/\w'.cell? ⟨b+1,5,nO⟩=sO (Bb h.f)/\w'.cell? ⟨b+1,6,nO⟩=sO (U st h.s.length hc))/\(w'.cell? ⟨ob,0,nO⟩=sO (Bb o.n)/\w'.cell? ⟨ob,1,nO⟩=sO (Bb o.sp.n)/\w'.cell? ⟨ob,2,nO⟩=sO (I Y o.sp.lo)/\w'.cell? ⟨ob,3,nO⟩=sO (I Y o.sp.hi)/\w'.cell? ⟨ob,4,nO⟩=sO (Bb o.t)/\w'.cell? ⟨ob,5,nO⟩=sO (Bb o.f)/\w'.cell? ⟨ob,6,nO⟩=sO (U nO o.s.length 0))

theorem Nq {a b:Sp}(h1:(a.n==b.n)=true)(h2:(a.lo==b.lo)=true)(h3:(a.hi==b.hi)=true):a=b:=by
 obtain⟨a1,a2,a3⟩:=a;obtain⟨b1,b2,b3⟩:=b;simp only[beq_iff_eq] at h1 h2 h3;rw[h1,h2,h3]
def sA (b:Nat)(g:Gs)(ss:oA)(gc:Nat)(h:Gs)(st:oA)(hc:Nat)(w':World):Prop:=
 (w'.cell? ⟨b,0,nO⟩=sO (Bb g.n)/\w'.cell? ⟨b,1,nO⟩=sO (Bb g.sp.n)/\w'.cell? ⟨b,2,nO⟩=sO (I Y g.sp.lo)/\w'.cell? ⟨b,3,nO⟩=sO (I Y g.sp.hi)/\w'.cell? ⟨b,4,nO⟩=sO (Bb g.t)/\w'.cell? ⟨b,5,nO⟩=sO (Bb g.f)/\w'.cell? ⟨b,6,nO⟩=sO (U ss g.s.length gc))/\(w'.cell? ⟨b+1,0,nO⟩=sO (Bb h.n)/\w'.cell? ⟨b+1,1,nO⟩=sO (Bb h.sp.n)/\w'.cell? ⟨b+1,2,nO⟩=sO (I Y h.sp.lo)/\w'.cell? ⟨b+1,3,nO⟩=sO (I Y h.sp.hi)/\w'.cell? ⟨b+1,4,nO⟩=sO (Bb h.t)/\w'.cell? ⟨b+1,5,nO⟩=sO (Bb h.f)/\w'.cell? ⟨b+1,6,nO⟩=sO (U st h.s.length hc))
theorem pm {p:Prop}(h:p:=by
 go_wp2_with fail;refine(HM.out _).mono ?_;rintro e w5 ⟨rfl,hb5⟩;have D5:=DR.call hb5;clear g0 g1 g2 g3 g4 g5 g6 gz k0 k1 k2 k3 k4 k5 k6 kz fz fo zo o0 o1 o2 o3 o4 o5 o6 oz;have fz:=D5.2.2.2.1.1;have fo:=D5.2.2.2.2.2.1.1;have zo:=D5.2.2.2.2.2.2.2;have o0:=D5.2.2.2.2.1.1;simp only[noneG,Nat.zero_add] at o0;obtain⟨o0,o1,o2,o3,o4,o5,o6⟩:=o0;go_wp2_with fail;go_meet;rw[Ey.out];exact D5.t):p:=h
theorem Bo {p:Prop}(h:p:=by
 have en1:=Hn1.out;have en2:=Hn2.out;cases cb with
 |true=>
  have Ey:Hid (y=true):=DD;go_wp2_with fail;go_meet;rw[Ey.out];exact DR.t
 |false=>
  have h3:(g.t=true/\h.t=true)\/g.t=false\/(g.t=true/\h.t=false):=by cases g.t<;>cases h.t<;>simp
  rcases h3 with⟨et1,et2⟩|et1|⟨et1,et2⟩
  ·have Ey:Hid (y=true):=by show _=_;rw[<-Hy.out,et1,et2];simp
   go_wp2_with fail;go_meet;rw[Ey.out];exact DR.t
  ·have h3:=Ky
   rcases h3 with⟨ef1,ef2⟩|ef1|⟨ef1,ef2⟩
   ·have Ey:Hid (y=true):=by show _=_;rw[<-Hy.out,ef1,ef2];simp
    go_wp2_with fail;go_meet;rw[Ey.out];exact DR.t
   ·have Ey:Hid (y= !ms.n):=by show _=_;first|(rw[<-Hy.out,<-HA.out,en1,en2,et1,ef1];simp;done)|(rw[<-Hy.out,<-HA.out,en1,et1,ef1];simp)
    exact pm
   ·have Ey:Hid (y= !ms.n):=by show _=_;first|(rw[<-Hy.out,<-HA.out,en1,en2,et1,ef1,ef2];simp;done)|(rw[<-Hy.out,<-HA.out,en1,et1,ef1,ef2];simp)
    exact pm
  ·have h3:=Ky
   rcases h3 with⟨ef1,ef2⟩|ef1|⟨ef1,ef2⟩
   ·have Ey:Hid (y=true):=by show _=_;rw[<-Hy.out,ef1,ef2];simp
    go_wp2_with fail;go_meet;rw[Ey.out];exact DR.t
   ·have Ey:Hid (y= !ms.n):=by show _=_;first|(rw[<-Hy.out,<-HA.out,en1,en2,et1,et2,ef1];simp;done)|(rw[<-Hy.out,<-HA.out,en1,et1,et2,ef1];simp)
    exact pm
   ·have Ey:Hid (y= !ms.n):=by show _=_;first|(rw[<-Hy.out,<-HA.out,en1,en2,et1,et2,ef1,ef2];simp;done)|(rw[<-Hy.out,<-HA.out,en1,et1,et2,ef1,ef2];simp)
    go_wp2_with fail;refine(HM.out _).mono ?_;rintro e w5 ⟨rfl,hb5⟩;have D5:=DR.call hb5;clear g0 g1 g2 g3 g4 g5 g6 gz k0 k1 k2 k3 k4 k5 k6 kz fz fo zo o0 o1 o2 o3 o4 o5 o6 oz;have fz:=D5.2.2.2.1.1;have fo:=D5.2.2.2.2.2.1.1;have zo:=D5.2.2.2.2.2.2.2;have o0:=D5.2.2.2.2.1.1;simp only[noneG,Nat.zero_add] at o0;obtain⟨o0,o1,o2,o3,o4,o5,o6⟩:=o0;go_wp2_with fail;go_meet;rw[Ey.out];exact D5.t):p:=h
theorem mw {p:Prop}(h:p:=by
 have JR:=ht.below DR.2.2.2.2.2.2.1 (Nat.le_refl _);obtain⟨b,off,rfl,hb,hcell⟩:=IR.get k hlt;have c0:=hcell k hlt;have n0:=bA;have n1:(k:Int) < (g.s.length:Int):=aa;clear hcell;cases cb with
 |true=>
  have HN:Hid (true=(g.s.take (k+1)).any λx=>h.s.contains x):=by
   show _=_;rw[List.take_add_one,List.any_append,<-HC.out];rfl
  go_wp2;refine wp_region_held_drew (S:=λ_=>True) ae trivial (λhHeld=> ?_);refine vH 0 ?_ ?_;refine vH 1 ?_ ?_;refine uH 2 ?_;refine sm ?_;refine uH 3 ?_;refine sm ?_;refine uH 4 ?_;refine sm ?_;refine uH 5 ?_;refine sm ?_;refine uH 6 ?_;refine sm ?_;refine uH 7 ?_;refine sm ?_;refine uH 8 ?_;refine sm ?_;refine uH 9 ?_;refine sm ?_;refine vH 10 ?_ ?_;refine vH 11 ?_ ?_;refine wpAnyH_done ae ?_ _;go_wp2;go_roundw
  case rel=>exact⟨k+1,true,aa,aF,rfl,HN,DR.drew⟩
  case measure=>exact aK
 |false=>
  have HN:Hid (decide (g.s[k]∈h.s)=(g.s.take (k+1)).any λx=>h.s.contains x):=by
   show _=_;rw[List.take_add_one,List.any_append,<-HC.out,List.getElem?_eq_getElem hlt];simp
  go_wp2;go_region_held3 (λwx=>wx.cell? ⟨w.heap.size,6,none⟩=some (.slice (some ⟨b,off,none⟩) g.s.length gc)/\wx.cell? ⟨w.heap.size+1,6,none⟩=some (.slice st h.s.length hc)/\wx.cell? ⟨b,off+k,none⟩=some (.int .i64 g.s[k]))
   (exact⟨g6,k6,c0⟩)
   ((go_at_call 168;refine(yR g.s[k] st hc h.s _ hhl JR.drew).mono ?_;rintro e w2 ⟨rfl,hw2⟩;have hw3:=hw2.symm;subst hw3))
  go_wp2;go_roundw
  case rel=>exact⟨k+1,decide (g.s[k]∈h.s),aa,aF,rfl,HN,DR.drew⟩
  case measure=>exact aK):p:=h
theorem mz {p:Prop}(h:p:=by
 go_wp2_with fail;refine(HNg.out _).mono ?_;rintro e w2 ⟨rfl,hb2⟩;have D2:=D1.call hb2;clear g0 g1 g2 g3 g4 g5 g6 gz k0 k1 k2 k3 k4 k5 k6 kz fz fo;cases ng with
 |true=>
  go_wp2_with fail;go_meet;exact iU
 |false=>
  obtain⟨⟨k0,k1,k2,k3,k4,k5,k6⟩,kz⟩:=id D2.2.1;simp only[Nat.zero_add] at k0 k1 k2 k3 k4 k5 k6;have fz:=D2.2.2.2.1.1;have fo:=D2.2.2.2.2.2.1.1;have zo2:=D2.2.2.2.2.2.2.2;go_wp2_with fail;refine(HNh.out _).mono ?_;rintro e w3 ⟨rfl,hb3⟩;have D3:=D2.call hb3;go_wp2_with fail;go_meet;exact⟨by rw[<-Hnn.out];first|done|rfl|simp,D3⟩):p:=h
theorem my {p:Prop}(h:p:=by
 obtain⟨⟨g0,g1,g2,g3,g4,g5,g6⟩,gz⟩:=id D2.1;simp only[Nat.zero_add] at g0 g1 g2 g3 g4 g5 g6;obtain⟨⟨r0,r1,r2,r3,r4,r5,r6⟩,rz⟩:=id D2.2.2.1;simp only[Nat.zero_add] at r0 r1 r2 r3 r4 r5 r6;obtain⟨⟨o0,o1,o2,o3,o4,o5,o6⟩,oz⟩:=id D2.2.2.2.2.1;simp only[Nat.zero_add] at o0 o1 o2 o3 o4 o5 o6;simp only[bG] at r0 r1 r2 r3 r4 r5 r6;have fz:=D2.2.2.2.1.1;have fo:=D2.2.2.2.2.2.1.1;have zo:=D2.2.2.2.2.2.2.2;simp only[noneG] at o0 o1 o2 o3 o4 o5 o6;go_wp2;refine bodyPost_ret (v:=.tuple #[gv noneG none 0,.bool false]) oR rfl ⟨?_,?_⟩
 ·rfl
 ·exact bC D2.2.2.2.2.2.2.1 aa):p:=h
theorem pS {p:Prop}(h:p:=by
 go_wp2_with fail;refine(fD _).mono ?_;rintro e w1 ⟨rfl,hb1⟩;have D1:=mI hb1;go_wp2_with fail;go_meet;refine⟨w1.heap.size,rfl,?_⟩;exact D1):p:=h
theorem Gi {p:Prop}(h:p:=by
 have HM:=pD;have HSg:=pM;have HSh:=su;generalize hy:((g.n&&h.n)||(!(aM g.sp h.sp).n||((g.t&&h.t)||((g.f&&h.f)||g.s.any λx=>h.s.contains x))))=y;have Hy:=ag hy;generalize hal:(!cX g h)=al;have Hal:=rr;clear hy hal;generalize bT g=x1 at *;generalize bT h=x2 at *;generalize aM g.sp h.sp=ms at *;have hfld:=sq;generalize hnn:(an g||an h)=nn;have Hnn:=ag hnn;clear hnn;have HNg:=ie;have HNh:=iq;generalize an g=ng at *;generalize an h=nh at *;go_enter func115,ntmps115;go_upto_region 1 with fail
 go_cut [8] (λt wy=>∃ob,t=.pointer (some ⟨ob,0,none⟩)/\DG w g ss gc h st hc ob noneG wy)
 case first=>
  exact pS
 obtain⟨ob,rfl,D1⟩:=hcut;obtain⟨⟨g0,g1,g2,g3,g4,g5,g6⟩,gz⟩:=id D1.1;simp only[Nat.zero_add] at g0 g1 g2 g3 g4 g5 g6;obtain⟨⟨k0,k1,k2,k3,k4,k5,k6⟩,kz⟩:=id D1.2.1;simp only[Nat.zero_add] at k0 k1 k2 k3 k4 k5 k6;have fz:=D1.2.2.2.1.1;have fo:=D1.2.2.2.2.2.1.1;have zo:=D1.2.2.2.2.2.2.2;go_upto_region 2 with fail
 go_cut [27] (λt wy=>t=.bool nn/\DG w g ss gc h st hc ob noneG wy)
 case first=>
  exact mz
 obtain⟨rfl,D2⟩:=hcut;clear g0 g1 g2 g3 g4 g5 g6 gz k0 k1 k2 k3 k4 k5 k6 kz fz fo zo D1 HNg HNh Hnn;cases nn with
 |true=>
  exact my
 |false=>
  go_wp2_with fail;go_loopw [11,12] (λcm i wr=>∃(k:Nat) (cb:Bool),k<=g.s.length/\i=.int .i64 k/\cm=.bool cb/\Hid (cb=(g.s.take k).any λx=>h.s.contains x)/\DG w g ss gc h st hc ob noneG wr) (λ_ i _=>g.s.length - (intOf i).toNat)
  case atStart=>exact⟨0,false,Nat.zero_le _,rfl,rfl,gR,D2⟩
  case round=>
   obtain⟨k,cb,hk,rfl,rfl,HC,DR⟩:=hrel;clear D2;obtain⟨⟨g0,g1,g2,g3,g4,g5,g6⟩,gz⟩:=id DR.1;simp only[Nat.zero_add] at g0 g1 g2 g3 g4 g5 g6;obtain⟨⟨k0,k1,k2,k3,k4,k5,k6⟩,kz⟩:=id DR.2.1;simp only[Nat.zero_add] at k0 k1 k2 k3 k4 k5 k6;have fz:=DR.2.2.2.1.1;have fo:=DR.2.2.2.2.2.1.1;have zo:=DR.2.2.2.2.2.2.2;by_cases hlt:k < g.s.length
   ·have IR:=re
    exact mw
   ·have ek:k=g.s.length:=by omega
    have HA:=rZ;subst ek;clear hlt;clear HC;obtain⟨⟨o0,o1,o2,o3,o4,o5,o6⟩,oz⟩:=id DR.2.2.2.2.1;simp only[Nat.zero_add] at o0 o1 o2 o3 o4 o5 o6;simp only[noneG] at o0 o1 o2 o3 o4 o5 o6;go_upto_region 17 with fail
    go_cut [11,98] (λt t' wy=>DG w g ss gc h st hc ob ⟨false,⟨true,0,0⟩,y,false,[]⟩ wy)
    case first=>
     exact Bo
    have D6:=hcut;clear DR g0 g1 g2 g3 g4 g5 g6 gz k0 k1 k2 k3 k4 k5 k6 kz fz fo zo o0 o1 o2 o3 o4 o5 o6 oz hcut Hy HA HM;go_wp2_with fail;have KS:=sd;generalize wc=w6 at *;have D7:=D6.drew;refine wp_region_held_drew (S:=sA w.heap.size g ss gc h st hc) ae (KS _ D7) (λhHeld=> ?_);unfold sA at hHeld KS |-;clear D6;generalize w6.drew=w7 at *;refine vH 0 ?_ ?_;refine rH1 1 λK hK=> ?_;go_simp;refine(HSg.out _).mono ?_;rintro e w8 ⟨rfl,hb8⟩;have D8:=D7.call hb8;refine hK.out _ _ (KS _ D8) (λhHeld8=> ?_);clear hK K hb8 D7;refine sm ?_;refine vH 2 ?_ ?_;have Hlt:∃lt:Bool,Hid (decide (x1 < 0)=lt):=⟨_,rfl⟩;obtain⟨lt,Hlt⟩:=Hlt;rw[Hlt.out];cases lt with
    |true=>
     have Eal:Hid (al=true):=by show _=_;rw[Hal.out,Hlt.out];rfl
     refine vH 3 ?_ ?_;refine uH 4 ?_;refine sm ?_;refine uH 5 ?_;refine sm ?_;refine uH 6 ?_;refine sm ?_;refine uH 7 ?_;refine sm ?_;refine uH 8 ?_;refine sm ?_;refine vH 9 ?_ ?_;refine vH 10 ?_ ?_;refine uH 11 ?_;refine sm ?_;refine uH 12 ?_;refine sm ?_;refine uH 13 ?_;refine sm ?_;refine uH 14 ?_;refine sm ?_;refine uH 15 ?_;refine sm ?_;refine vH 16 ?_ ?_;refine vH 17 ?_ ?_;obtain⟨⟨o0,o1,o2,o3,o4,o5,o6⟩,oz⟩:=id D8.2.2.2.2.1;simp only[Nat.zero_add] at o0 o1 o2 o3 o4 o5 o6;have fo:=D8.2.2.2.2.2.1.1;have D9:=D8.f (y:=true);refine rH1 18 λK hK=> ?_;go_simp;refine hK.out _ (w8.setCell ⟨ob,5,none⟩ (.bool true)) (KS _ D9) (λhHeldz=> ?_);clear hK K o0 o1 o2 o3 o4 o5 o6 oz fo D8;refine sm ?_;generalize w8.setCell ⟨ob,5,none⟩ (.bool true)=w9 at *;refine wpAnyH_done ae ?_ _;obtain⟨⟨r0,r1,r2,r3,r4,r5,r6⟩,rz⟩:=id D9.2.2.1;simp only[Nat.zero_add] at r0 r1 r2 r3 r4 r5 r6;obtain⟨⟨o0,o1,o2,o3,o4,o5,o6⟩,oz⟩:=id D9.2.2.2.2.1;simp only[Nat.zero_add] at o0 o1 o2 o3 o4 o5 o6;simp only[bG] at r0 r1 r2 r3 r4 r5 r6;have fz:=D9.2.2.2.1.1;have fo:=D9.2.2.2.2.2.1.1;have zo:=D9.2.2.2.2.2.2.2;go_wp2;refine bodyPost_ret (v:=.tuple #[gv ⟨false,⟨true,0,0⟩,y,true,[]⟩ none 0,.bool false]) kn rfl ⟨?_,?_⟩
     ·rw[show al=true from Eal.out]
     ·exact bC D9.2.2.2.2.2.2.1 aa
    |false=>
     have hne:x1≠x2:=by
      rcases hS.out with h|h
      ·exact absurd h (of_decide_eq_false Hlt.out)
      ·exact h
     refine vH 3 ?_ ?_;refine vH 4 ?_ ?_;refine vH 6 ?_ ?_;refine rH1 5 λK hK=> ?_;go_simp;refine(HSg.out _).mono ?_;rintro e w9 ⟨rfl,hb9⟩;have D9:=D8.call hb9;refine hK.out _ _ (KS _ D9) (λhHeld9=> ?_);clear hK K hb9 D8;refine sm ?_;refine rH1 7 λK hK=> ?_;go_simp;refine(HSh.out _).mono ?_;rintro e w10 ⟨rfl,hb10⟩;have D10:=D9.call hb10;refine hK.out _ _ (KS _ D10) (λhHeld10=> ?_);clear hK K hb10 D9;refine sm ?_;have hneb:(x1 !=x2)=true:=by simpa using hne
     have Eal:Hid (al=true):=Mh;refine vH 8 ?_ ?_;refine vH 9 ?_ ?_;refine vH 10 ?_ ?_;refine uH 11 ?_;refine sm ?_;refine uH 12 ?_;refine sm ?_;refine uH 13 ?_;refine sm ?_;refine uH 14 ?_;refine sm ?_;refine uH 15 ?_;refine sm ?_;refine vH 16 ?_ ?_;refine vH 17 ?_ ?_;obtain⟨⟨o0,o1,o2,o3,o4,o5,o6⟩,oz⟩:=id D10.2.2.2.2.1;simp only[Nat.zero_add] at o0 o1 o2 o3 o4 o5 o6;have fo:=D10.2.2.2.2.2.1.1;have D9:=D10.f (y:=true);refine rH1 18 λK hK=> ?_;go_simp;refine hK.out _ (w10.setCell ⟨ob,5,none⟩ (.bool true)) (KS _ D9) (λhHeldz=> ?_);clear hK K o0 o1 o2 o3 o4 o5 o6 oz fo D10;refine sm ?_;generalize w10.setCell ⟨ob,5,none⟩ (.bool true)=w9 at *;refine wpAnyH_done ae ?_ _;obtain⟨⟨r0,r1,r2,r3,r4,r5,r6⟩,rz⟩:=id D9.2.2.1;simp only[Nat.zero_add] at r0 r1 r2 r3 r4 r5 r6;obtain⟨⟨o0,o1,o2,o3,o4,o5,o6⟩,oz⟩:=id D9.2.2.2.2.1;simp only[Nat.zero_add] at o0 o1 o2 o3 o4 o5 o6;simp only[bG] at r0 r1 r2 r3 r4 r5 r6;have fz:=D9.2.2.2.1.1;have fo:=D9.2.2.2.2.2.1.1;have zo:=D9.2.2.2.2.2.2.2;go_wp2;refine bodyPost_ret (v:=.tuple #[gv ⟨false,⟨true,0,0⟩,y,true,[]⟩ none 0,.bool false]) kn rfl ⟨?_,?_⟩
     ·rw[show al=true from Eal.out]
     ·exact bC D9.2.2.2.2.2.2.1 aa):p:=h
theorem iA {p:Prop}(h:p:=by
 refine vH 15 ?_ ?_;refine vH 16 ?_ ?_;refine vH 17 ?_ ?_;obtain⟨⟨o0,o1,o2,o3,o4,o5,o6⟩,oz⟩:=id D10.2.2.2.2.1;simp only[Nat.zero_add] at o0 o1 o2 o3 o4 o5 o6;have fo:=D10.2.2.2.2.2.1.1;have D9:=D10.f (y:=true);refine rH1 18 λK hK=> ?_;go_simp;refine hK.out _ (w10.setCell ⟨ob,5,none⟩ (.bool true)) (KS _ D9) (λhHeldz=> ?_);clear hK K o0 o1 o2 o3 o4 o5 o6 oz fo D10;refine sm ?_;generalize w10.setCell ⟨ob,5,none⟩ (.bool true)=w9 at *;refine wpAnyH_done ae ?_ _;obtain⟨⟨r0,r1,r2,r3,r4,r5,r6⟩,rz⟩:=id D9.2.2.1;simp only[Nat.zero_add] at r0 r1 r2 r3 r4 r5 r6;obtain⟨⟨o0,o1,o2,o3,o4,o5,o6⟩,oz⟩:=id D9.2.2.2.2.1;simp only[Nat.zero_add] at o0 o1 o2 o3 o4 o5 o6;simp only[bG] at r0 r1 r2 r3 r4 r5 r6;have fz:=D9.2.2.2.1.1;have fo:=D9.2.2.2.2.2.1.1;have zo:=D9.2.2.2.2.2.2.2;go_wp2;refine bodyPost_ret (v:=.tuple #[gv ⟨false,⟨true,0,0⟩,y,true,[]⟩ none 0,.bool false]) kn rfl ⟨?_,?_⟩
 ·rw[show al=true from Eal.out]
 ·exact bC D9.2.2.2.2.2.2.1 aa):p:=h
theorem Ih {p:Prop}(h:p:=by
 have HM:=pD;have HSg:=pM;have HSh:=su;generalize hy:((g.n&&h.n)||(!(aM g.sp h.sp).n||((g.t&&h.t)||((g.f&&h.f)||g.s.any λx=>h.s.contains x))))=y;have Hy:=ag hy;generalize hal:(!cX g h)=al;have Hal:=rr;clear hy hal;generalize bT g=x1 at *;generalize bT h=x2 at *;generalize aM g.sp h.sp=ms at *;have hfld:=sq;generalize hnn:(an g||an h)=nn;have Hnn:=ag hnn;clear hnn;have HNg:=ie;have HNh:=iq;generalize an g=ng at *;generalize an h=nh at *;go_enter func115,ntmps115;go_upto_region 1 with fail
 go_cut [8] (λt wy=>∃ob,t=.pointer (some ⟨ob,0,none⟩)/\DG w g ss gc h st hc ob noneG wy)
 case first=>
  exact pS
 obtain⟨ob,rfl,D1⟩:=hcut;obtain⟨⟨g0,g1,g2,g3,g4,g5,g6⟩,gz⟩:=id D1.1;simp only[Nat.zero_add] at g0 g1 g2 g3 g4 g5 g6;obtain⟨⟨k0,k1,k2,k3,k4,k5,k6⟩,kz⟩:=id D1.2.1;simp only[Nat.zero_add] at k0 k1 k2 k3 k4 k5 k6;have fz:=D1.2.2.2.1.1;have fo:=D1.2.2.2.2.2.1.1;have zo:=D1.2.2.2.2.2.2.2;go_upto_region 2 with fail
 go_cut [27] (λt wy=>t=.bool nn/\DG w g ss gc h st hc ob noneG wy)
 case first=>
  exact mz
 obtain⟨rfl,D2⟩:=hcut;clear g0 g1 g2 g3 g4 g5 g6 gz k0 k1 k2 k3 k4 k5 k6 kz fz fo zo D1 HNg HNh Hnn;cases nn with
 |true=>
  exact my
 |false=>
  go_wp2_with fail;go_loopw [11,12] (λcm i wr=>∃(k:Nat) (cb:Bool),k<=g.s.length/\i=.int .i64 k/\cm=.bool cb/\Hid (cb=(g.s.take k).any λx=>h.s.contains x)/\DG w g ss gc h st hc ob noneG wr) (λ_ i _=>g.s.length - (intOf i).toNat)
  case atStart=>exact⟨0,false,Nat.zero_le _,rfl,rfl,gR,D2⟩
  case round=>
   obtain⟨k,cb,hk,rfl,rfl,HC,DR⟩:=hrel;clear D2;obtain⟨⟨g0,g1,g2,g3,g4,g5,g6⟩,gz⟩:=id DR.1;simp only[Nat.zero_add] at g0 g1 g2 g3 g4 g5 g6;obtain⟨⟨k0,k1,k2,k3,k4,k5,k6⟩,kz⟩:=id DR.2.1;simp only[Nat.zero_add] at k0 k1 k2 k3 k4 k5 k6;have fz:=DR.2.2.2.1.1;have fo:=DR.2.2.2.2.2.1.1;have zo:=DR.2.2.2.2.2.2.2;by_cases hlt:k < g.s.length
   ·have IR:=re
    exact mw
   ·have ek:k=g.s.length:=by omega
    have HA:=rZ;subst ek;clear hlt;clear HC;obtain⟨⟨o0,o1,o2,o3,o4,o5,o6⟩,oz⟩:=id DR.2.2.2.2.1;simp only[Nat.zero_add] at o0 o1 o2 o3 o4 o5 o6;simp only[noneG] at o0 o1 o2 o3 o4 o5 o6;go_upto_region 17 with fail
    go_cut [11,98] (λt t' wy=>DG w g ss gc h st hc ob ⟨false,⟨true,0,0⟩,y,false,[]⟩ wy)
    case first=>
     exact Bo
    have D6:=hcut;clear DR g0 g1 g2 g3 g4 g5 g6 gz k0 k1 k2 k3 k4 k5 k6 kz fz fo zo o0 o1 o2 o3 o4 o5 o6 oz hcut Hy HA HM;go_wp2_with fail;have KS:=sd;generalize wc=w6 at *;have D7:=D6.drew;refine wp_region_held_drew (S:=sA w.heap.size g ss gc h st hc) ae (KS _ D7) (λhHeld=> ?_);unfold sA at hHeld KS |-;clear D6;generalize w6.drew=w7 at *;refine vH 0 ?_ ?_;refine rH1 1 λK hK=> ?_;go_simp;refine(HSg.out _).mono ?_;rintro e w8 ⟨rfl,hb8⟩;have D8:=D7.call hb8;refine hK.out _ _ (KS _ D8) (λhHeld8=> ?_);clear hK K hb8 D7;refine sm ?_;refine vH 2 ?_ ?_;have Hlt:Hid (decide (x1 < 0)=false):=decide_eq_false (by have:=hS0.out;omega)
    rw[Hlt.out];have hne:=hS1.out;clear hS0 hS1
    ·
     refine vH 3 ?_ ?_;refine vH 4 ?_ ?_;refine vH 6 ?_ ?_;refine rH1 5 λK hK=> ?_;go_simp;refine(HSg.out _).mono ?_;rintro e w9 ⟨rfl,hb9⟩;have D9:=D8.call hb9;refine hK.out _ _ (KS _ D9) (λhHeld9=> ?_);clear hK K hb9 D8;refine sm ?_;refine rH1 7 λK hK=> ?_;go_simp;refine(HSh.out _).mono ?_;rintro e w10 ⟨rfl,hb10⟩;have D10:=D9.call hb10;refine hK.out _ _ (KS _ D10) (λhHeld10=> ?_);clear hK K hb10 D9;refine sm ?_;subst hne;refine vH 8 ?_ ?_;refine vH 9 ?_ ?_;refine vH 10 ?_ ?_;refine vH 11 ?_ ?_;refine vH 12 ?_ ?_;refine vH 13 ?_ ?_;refine vH 14 ?_ ?_;have h4:(g.sp.n==h.sp.n)=false\/((g.sp.n==h.sp.n)=true/\(g.sp.lo==h.sp.lo)=false)\/((g.sp.n==h.sp.n)=true/\(g.sp.lo==h.sp.lo)=true/\(g.sp.hi==h.sp.hi)=false)\/((g.sp.n==h.sp.n)=true/\(g.sp.lo==h.sp.lo)=true/\(g.sp.hi==h.sp.hi)=true):=by
      cases (g.sp.n==h.sp.n)<;>cases (g.sp.lo==h.sp.lo)<;>cases (g.sp.hi==h.sp.hi)<;>simp
     rcases h4 with q1|⟨q1,q2⟩|⟨q1,q2,q3⟩|⟨q1,q2,q3⟩
     ·have Eal:Hid (al=true):=by show _=_;rw[Hal.out,Hlt.out,@decide_eq_true (g.sp≠h.sp) (@instDecidableNot _ (g.sp.dq h.sp)) (λe=>by rw[e] at q1;simp at q1)];simp
      exact iA
     ·have Eal:Hid (al=true):=by show _=_;rw[Hal.out,Hlt.out,@decide_eq_true (g.sp≠h.sp) (@instDecidableNot _ (g.sp.dq h.sp)) (λe=>by rw[e] at q2;simp at q2)];simp
      exact iA
     ·have Eal:Hid (al=true):=by show _=_;rw[Hal.out,Hlt.out,@decide_eq_true (g.sp≠h.sp) (@instDecidableNot _ (g.sp.dq h.sp)) (λe=>by rw[e] at q3;simp at q3)];simp
      exact iA
     ·have Eal:Hid (al=false):=by show _=_;rw[Hal.out,Hlt.out,Nq q1 q2 q3];simp
      refine vH 15 ?_ ?_;refine vH 16 ?_ ?_;refine vH 17 ?_ ?_;obtain⟨⟨o0,o1,o2,o3,o4,o5,o6⟩,oz⟩:=id D10.2.2.2.2.1;simp only[Nat.zero_add] at o0 o1 o2 o3 o4 o5 o6;have fo:=D10.2.2.2.2.2.1.1;have D9:=D10.f (y:=false);refine rH1 18 λK hK=> ?_;go_simp;refine hK.out _ (w10.setCell ⟨ob,5,none⟩ (.bool false)) (KS _ D9) (λhHeldz=> ?_);clear hK K o0 o1 o2 o3 o4 o5 o6 oz fo D10;refine sm ?_;generalize w10.setCell ⟨ob,5,none⟩ (.bool false)=w9 at *;refine wpAnyH_done ae ?_ _;obtain⟨⟨r0,r1,r2,r3,r4,r5,r6⟩,rz⟩:=id D9.2.2.1;simp only[Nat.zero_add] at r0 r1 r2 r3 r4 r5 r6;obtain⟨⟨o0,o1,o2,o3,o4,o5,o6⟩,oz⟩:=id D9.2.2.2.2.1;simp only[Nat.zero_add] at o0 o1 o2 o3 o4 o5 o6;simp only[bG] at r0 r1 r2 r3 r4 r5 r6;have fz:=D9.2.2.2.1.1;have fo:=D9.2.2.2.2.2.1.1;have zo:=D9.2.2.2.2.2.2.2;go_wp2;refine bodyPost_ret (v:=.tuple #[gv ⟨false,⟨true,0,0⟩,y,false,[]⟩ none 0,.bool false]) kn rfl ⟨?_,?_⟩
      ·rw[show al=false from Eal.out]
      ·exact bC D9.2.2.2.2.2.2.1 aa):p:=h
theorem rQ {p:Prop}(h:p:=by
 generalize hnn:(an g||an h)=nn;have Hnn:=ag hnn;clear hnn;have HNg:=ie;have HNh:=iq;generalize an g=ng at *;generalize an h=nh at *;go_enter func115,ntmps115;go_upto_region 1 with fail
 go_cut [8] (λt wy=>∃ob,t=.pointer (some ⟨ob,0,none⟩)/\DG w g ss gc h st hc ob noneG wy)
 case first=>
  exact pS
 obtain⟨ob,rfl,D1⟩:=hcut;obtain⟨⟨g0,g1,g2,g3,g4,g5,g6⟩,gz⟩:=id D1.1;simp only[Nat.zero_add] at g0 g1 g2 g3 g4 g5 g6;obtain⟨⟨k0,k1,k2,k3,k4,k5,k6⟩,kz⟩:=id D1.2.1;simp only[Nat.zero_add] at k0 k1 k2 k3 k4 k5 k6;have fz:=D1.2.2.2.1.1;have fo:=D1.2.2.2.2.2.1.1;have zo:=D1.2.2.2.2.2.2.2;go_upto_region 2 with fail
 go_cut [27] (λt wy=>t=.bool nn/\DG w g ss gc h st hc ob noneG wy)
 case first=>
  go_wp2_with fail;refine(HNg.out _).mono ?_;rintro e w2 ⟨rfl,hb2⟩;have D2:=D1.call hb2;clear g0 g1 g2 g3 g4 g5 g6 gz k0 k1 k2 k3 k4 k5 k6 kz fz fo;cases ng with
  |true=>
   go_wp2_with fail;go_meet;exact iU
  |false=>
   obtain⟨⟨k0,k1,k2,k3,k4,k5,k6⟩,kz⟩:=id D2.2.1;simp only[Nat.zero_add] at k0 k1 k2 k3 k4 k5 k6;have fz:=D2.2.2.2.1.1;have fo:=D2.2.2.2.2.2.1.1;have zo2:=D2.2.2.2.2.2.2.2;go_wp2_with fail;refine(HNh.out _).mono ?_;rintro e w3 ⟨rfl,hb3⟩;have D3:=D2.call hb3;go_wp2_with fail;go_meet;exact⟨by rw[<-Hnn.out];first|done|rfl|simp,D3⟩
 obtain⟨rfl,D2⟩:=hcut;clear g0 g1 g2 g3 g4 g5 g6 gz k0 k1 k2 k3 k4 k5 k6 kz fz fo zo D1 HNg HNh Hnn;cases nn with
 |true=>
  obtain⟨⟨g0,g1,g2,g3,g4,g5,g6⟩,gz⟩:=id D2.1;simp only[Nat.zero_add] at g0 g1 g2 g3 g4 g5 g6;obtain⟨⟨r0,r1,r2,r3,r4,r5,r6⟩,rz⟩:=id D2.2.2.1;simp only[Nat.zero_add] at r0 r1 r2 r3 r4 r5 r6;obtain⟨⟨o0,o1,o2,o3,o4,o5,o6⟩,oz⟩:=id D2.2.2.2.2.1;simp only[Nat.zero_add] at o0 o1 o2 o3 o4 o5 o6;simp only[bG] at r0 r1 r2 r3 r4 r5 r6;have fz:=D2.2.2.2.1.1;have fo:=D2.2.2.2.2.2.1.1;have zo:=D2.2.2.2.2.2.2.2;simp only[noneG] at o0 o1 o2 o3 o4 o5 o6;go_wp2;refine bodyPost_ret (v:=.tuple #[gv noneG none 0,.bool false]) oR rfl ⟨?_,?_⟩
  ·rfl
  ·exact mU
 |false=>
  obtain⟨⟨g0,g1,g2,g3,g4,g5,g6⟩,gz⟩:=id D2.1;simp only[Nat.zero_add] at g0 g1 g2 g3 g4 g5 g6;obtain⟨⟨k0,k1,k2,k3,k4,k5,k6⟩,kz⟩:=id D2.2.1;simp only[Nat.zero_add] at k0 k1 k2 k3 k4 k5 k6;have fz:=D2.2.2.2.1.1;have fo:=D2.2.2.2.2.2.1.1;have zo:=D2.2.2.2.2.2.2.2;go_upto_region 25 with fail
  go_cut [159] (λt wy=>DG w g ss gc h st hc ob ⟨false,sp,false,false,[]⟩ wy)
  case first=>
   go_wp2_with fail;refine(HD.out _).mono ?_;rintro e w3 ⟨rfl,hb3⟩;have D3:=D2.call hb3;clear hb3 D2 g0 g1 g2 g3 g4 g5 g6 gz k0 k1 k2 k3 k4 k5 k6 kz fz fo zo;obtain⟨⟨o0,o1,o2,o3,o4,o5,o6⟩,oz⟩:=id D3.2.2.2.2.1;simp only[Nat.zero_add] at o0 o1 o2 o3 o4 o5 o6;have fz:=D3.2.2.2.1.1;have fo:=D3.2.2.2.2.2.1.1;have zo:=D3.2.2.2.2.2.2.2;simp only[noneG] at o0 o1 o2 o3 o4 o5 o6;go_wp2_with fail;go_meet;exact D3.sp
  have D3:=hcut;clear D2 g0 g1 g2 g3 g4 g5 g6 gz k0 k1 k2 k3 k4 k5 k6 kz fz fo zo hcut;generalize ho:(⟨false,sp,false,false,[]⟩:Gs)=o at D3;have HO:Hid (Ending.returned (.tuple #[gv o none 0,.bool wr])=Ending.returned (.tuple #[gv ⟨false,sp,false,false,[]⟩ none 0,.bool wr])):=by show _=_;rw[<-ho]
  clear ho;go_wp2_with fail;generalize wc=w3 at *;have KS:=Ig;have KSp:=IB;have D4:=D3.drew;refine wp_region_held_drew (S:=DT w.heap.size ob g ss gc h st hc o) ae (KS _ D4) (λhHeld=> ?_);unfold DT at hHeld KS KSp |-;clear D3;generalize w3.drew=w4 at *;refine vH 0 ?_ ?_;refine vH 1 ?_ ?_;refine rH1 2 λK hK=> ?_;go_simp;refine(HOg.out _).mono ?_;rintro e w5 ⟨rfl,hb5⟩;have D5:=D4.call hb5;refine hK.out _ _ (KS _ D5) (λhHeld5=> ?_);clear hK K hb5 D4;refine sm ?_;cases og with
  |true=>
   have ewr:wr=true:=vg;subst ewr;refine vH 3 ?_ ?_;refine uH 4 ?_;refine sm ?_;refine uH 5 ?_;refine sm ?_;refine vH 6 ?_ ?_;obtain⟨⟨r0,r1,r2,r3,r4,r5,r6⟩,rz⟩:=id D5.2.2.1;simp only[Nat.zero_add] at r0 r1 r2 r3 r4 r5 r6;simp only[bG] at r0 r1 r2 r3 r4 r5 r6;have fz:=D5.2.2.2.1.1;have zo:=D5.2.2.2.2.2.2.2;refine rH1 7 λK hK=> ?_;go_simp;refine hK.out _ (Go.Proofs.YtmapdpcfanecdabGreatDoor.iX w5 (w.heap.size+1+1) (.bool o.n) (.bool o.sp.n) (.int .i64 o.sp.lo) (.int .i64 o.sp.hi) (.bool o.t) (.bool o.f) (.slice none o.s.length 0)) (KSp _ D5) (λhHeldz=> ?_);clear hK K;refine sm ?_;refine vH 8 ?_ ?_;refine wpAnyH_done ae ?_ _;go_wp2;refine bodyPost_ret (v:=.tuple #[gv o none 0,.bool true]) ux rfl ⟨HO.out,?_⟩;exact bC D5.2.2.2.2.2.2.1 aa
  |false=>
   have ewr:wr=oh:=vg;subst ewr;refine vH 3 ?_ ?_;refine vH 4 ?_ ?_;refine rH1 5 λK hK=> ?_;go_simp;refine(HOh.out _).mono ?_;rintro e w6 ⟨rfl,hb6⟩;have D6:=D5.call hb6;refine hK.out _ _ (KS _ D6) (λhHeld6=> ?_);clear hK K hb6 D5;refine sm ?_;refine vH 6 ?_ ?_;obtain⟨⟨r0,r1,r2,r3,r4,r5,r6⟩,rz⟩:=id D6.2.2.1;simp only[Nat.zero_add] at r0 r1 r2 r3 r4 r5 r6;simp only[bG] at r0 r1 r2 r3 r4 r5 r6;have fz:=D6.2.2.2.1.1;have zo:=D6.2.2.2.2.2.2.2;refine rH1 7 λK hK=> ?_;go_simp;refine hK.out _ (Go.Proofs.YtmapdpcfanecdabGreatDoor.iX w6 (w.heap.size+1+1) (.bool o.n) (.bool o.sp.n) (.int .i64 o.sp.lo) (.int .i64 o.sp.hi) (.bool o.t) (.bool o.f) (.slice none o.s.length 0)) (KSp _ D6) (λhHeldz=> ?_);clear hK K;refine sm ?_;refine vH 8 ?_ ?_;refine wpAnyH_done ae ?_ _;go_wp2;refine bodyPost_ret (v:=.tuple #[gv o none 0,.bool wr]) ux rfl ⟨HO.out,?_⟩;exact bC D6.2.2.2.2.2.2.1 aa):p:=h
theorem Wg (w:World)(g:Gs)(ss:oA)(gc:Nat)(h:Gs)(st:oA)(hc:Nat):
  Calls pG 115 #[I Y 10,gv g ss gc,gv h st hc] w λe w'=>e=Rt (if an g=true then Tu #[gv noneG nO 0,Bb false] else Tu #[gv ⟨false,⟨true,0,0⟩,cQ g,cd g,[]⟩ nO 0,Bb false])/\bl w w':=by
 have HT:=ag (λw=>vR g ss gc w);generalize cd g=yy at *;generalize cQ g=no at *;generalize hnn:an g=nn;have Hnn:=ag hnn;clear hnn;have HNg:=ie;have HNh:=iq;generalize an g=ng at *;generalize an h=nh at *;go_enter func115,ntmps115;go_upto_region 1 with fail
 go_cut [8] (λt wy=>∃ob,t=Pp (sO ⟨ob,0,nO⟩)/\DG w g ss gc h st hc ob noneG wy)
 case first=>
  go_wp2_with fail;refine(fD _).mono ?_;rintro e w1 ⟨rfl,hb1⟩;have D1:=mI hb1;go_wp2_with fail;go_meet;refine⟨w1.heap.size,rfl,?_⟩;exact D1
 obtain⟨ob,rfl,D1⟩:=hcut;obtain⟨⟨g0,g1,g2,g3,g4,g5,g6⟩,gz⟩:=id D1.1;simp only[j0] at g0 g1 g2 g3 g4 g5 g6;obtain⟨⟨k0,k1,k2,k3,k4,k5,k6⟩,kz⟩:=id D1.2.1;simp only[j0] at k0 k1 k2 k3 k4 k5 k6;have fz:=D1.2.2.2.1.1;have fo:=D1.2.2.2.2.2.1.1;have zo:=D1.2.2.2.2.2.2.2;go_upto_region 2 with fail
 go_cut [27] (λt wy=>t=Bb nn/\DG w g ss gc h st hc ob noneG wy)
 case first=>
  go_wp2_with fail;refine(HNg.out _).mono ?_;rintro e w2 ⟨rfl,hb2⟩;have D2:=D1.call hb2;clear g0 g1 g2 g3 g4 g5 g6 gz k0 k1 k2 k3 k4 k5 k6 kz fz fo;cases ng with
  |true=>
   go_wp2_with fail;go_meet;exact iU
  |false=>
   go_wp2_with fail;go_meet;exact iU
 obtain⟨rfl,D2⟩:=hcut;clear g0 g1 g2 g3 g4 g5 g6 gz k0 k1 k2 k3 k4 k5 k6 kz fz fo zo D1 HNg HNh Hnn;cases nn with
 |true=>
  obtain⟨⟨g0,g1,g2,g3,g4,g5,g6⟩,gz⟩:=id D2.1;simp only[j0] at g0 g1 g2 g3 g4 g5 g6;obtain⟨⟨r0,r1,r2,r3,r4,r5,r6⟩,rz⟩:=id D2.2.2.1;simp only[j0] at r0 r1 r2 r3 r4 r5 r6;obtain⟨⟨o0,o1,o2,o3,o4,o5,o6⟩,oz⟩:=id D2.2.2.2.2.1;simp only[j0] at o0 o1 o2 o3 o4 o5 o6;simp only[bG] at r0 r1 r2 r3 r4 r5 r6;have fz:=D2.2.2.2.1.1;have fo:=D2.2.2.2.2.2.1.1;have zo:=D2.2.2.2.2.2.2.2;simp only[noneG] at o0 o1 o2 o3 o4 o5 o6;go_wp2;refine bodyPost_ret (v:=Tu #[gv noneG nO 0,Bb false]) oR rfl ⟨?_,?_⟩
  ·rfl
  ·exact mU
 |false=>
  obtain⟨⟨g0,g1,g2,g3,g4,g5,g6⟩,gz⟩:=id D2.1;simp only[j0] at g0 g1 g2 g3 g4 g5 g6;have fz:=D2.2.2.2.1.1;have fo:=D2.2.2.2.2.2.1.1;have zo:=D2.2.2.2.2.2.2.2;go_wp2_with fail;refine(HT.out _).mono ?_;rintro e w3 ⟨rfl,hb3⟩;have D3:=D2.call hb3;clear hb3 D2 g0 g1 g2 g3 g4 g5 g6 gz fz fo zo;obtain⟨⟨r0,r1,r2,r3,r4,r5,r6⟩,rz⟩:=id D3.2.2.1;simp only[j0] at r0 r1 r2 r3 r4 r5 r6;obtain⟨⟨o0,o1,o2,o3,o4,o5,o6⟩,oz⟩:=id D3.2.2.2.2.1;simp only[j0] at o0 o1 o2 o3 o4 o5 o6;simp only[bG] at r0 r1 r2 r3 r4 r5 r6;have fz:=D3.2.2.2.1.1;have fo:=D3.2.2.2.2.2.1.1;have zo:=D3.2.2.2.2.2.2.2;simp only[noneG] at o0 o1 o2 o3 o4 o5 o6;have hne:ob≠w.heap.size+1+1:=aa;go_wp2;refine bodyPost_ret (v:=Tu #[gv ⟨false,⟨true,0,0⟩,no,yy,[]⟩ nO 0,Bb false]) kn rfl ⟨?_,?_⟩
  ·rfl
  ·exact bC ((D3.2.2.2.2.2.2.1.setCell ap _).setCell ap _) aa
end
end Go.Proofs.YtmapdpcfanecdabGreatDoor
