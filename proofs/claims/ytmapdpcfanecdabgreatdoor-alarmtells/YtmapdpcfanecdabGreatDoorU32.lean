import Derived.Test.YtmapdpcfanecdabGreatDoorU28
import Derived.Laws.EntriesVeiled
import Derived.Test.YtmapdpcfanecdabGreatDoorU29
open Go.Ending renaming returned→Rt
open Go.Obj renaming cells→Cc
open Go.Proofs.Tryz renaming prog→pG
open Go.RowKit.Below renaming heap_setCell→hSe,refl→bR
open Go.Value renaming agg→Ag,bool→Bb,int→I,ownBlock→j5,pointer→Pp,slice→U,tuple→Tu
open Go.World renaming grownBy_alloc→j3,ownsRow_lit→q6,size_alloc→zA
open List renaming foldl_append→q7,getElem?_append_right→z5,getElem?_eq_getElem→z7,getElem?_set→j4,getElem_mem→gM,getElem_set_ne→j9,length_append→q9,length_replicate→j7,length_set→j8,range→q8,range_succ→z6,replicate→j1,replicate_succ'→q5
open Nat renaming le_refl→lR,le_trans→lT,lt_of_lt_of_le→lL,zero_add→j0,zero_le→j2
open Option renaming none→nO,some→j6,some→sO
set_option linter.unusedSimpArgs false
set_option linter.unusedVariables false
set_option maxHeartbeats 32000000
set_option maxRecDepth 100000
namespace Go.Proofs.YtmapdpcfanecdabGreatDoor
section
open Go.RowKit
attribute [local go_sem ↓] Go.wp_at_zero Go.wp_at_succ
theorem bI {V F:Int}{c:lI}(h:aw V F c=0):(1<=V/\V<=8)/\(0<=F/\F<=3)/\c.length<=60:=by
 unfold aw at h;split at h
 ·cases h
 ·rename_i h3
  split at h
  ·cases h
  ·rename_i h60
   simp[btw] at h3;exact⟨⟨aa,aa⟩,⟨aa,aa⟩,aa⟩
def XsAt (w:World)(ls:oA)(L:List Pic):Prop:=
 ∀i (h:i < L.length),∃b off,ls=sO ⟨b,off,nO⟩/\b < w.heap.size/\∃vs vc fs fc,(w.cell? ⟨b,off+i * 3,nO⟩=sO (Bb L[i].none)/\w.cell? ⟨b,off+i * 3+1,nO⟩=sO (U vs L[i].vq.length vc)/\w.cell? ⟨b,off+i * 3+2,nO⟩=sO (U fs L[i].fq.length fc))/\PicAt w L[i] vs fs/\(L[i].vq.length<=vc/\vc<=maxLen)/\(L[i].fq.length<=fc/\fc<=maxLen)
theorem XsAt.below {B:Nat}{w w':World}{ls:oA}{L:List Pic}(h:XsAt w ls L)(hb:Below B w w')(hB:w.heap.size<=B):XsAt w' ls L:=by
 intro i hi;obtain⟨b,off,e,hz,vs,vc,fs,fc,⟨h0,h1,h2⟩,hP,hQ⟩:=h i hi;exact⟨b,off,e,lL hz hb.size,vs,vc,fs,fc,⟨by rw[hb.cell (by simp only;omega)];exact h0,by rw[hb.cell (by simp only;omega)];exact h1,by rw[hb.cell (by simp only;omega)];exact h2⟩,hP.below hb hB,hQ⟩
theorem Bw (V F:Int)(c:lI)(L:List Pic)(k:Nat)(h:k < L.length):cJ V F c (L.drop k)=if aK V F c L[k]=0 then cJ V F c (L.drop (k+1)) else aK V F c L[k]:=by
 rw[List.drop_eq_getElem_cons h];rfl
end
section
open Go.RowKit Go
def PRow (S:Nat->Prop)(W:World)(pb:Nat)(L:List Pic):Prop:=∃cs,Cells W pb cs/\L.length * 3<=cs.length/\∀i (h:i < L.length),∃vs vc fs fc,(cs[i * 3]? =sO (Bb L[i].none)/\cs[i * 3+1]? =sO (U vs L[i].vq.length vc)/\cs[i * 3+2]? =sO (U fs L[i].fq.length fc))/\PicOn S W L[i] vs fs/\(L[i].vq.length<=vc/\vc<=maxLen)/\(L[i].fq.length<=fc/\fc<=maxLen)
def DRow (W:World)(db:Nat)(D:List Int):Prop:=∃cs,Cells W db cs/\D.length<=cs.length/\∀i (h:i < D.length),cs[i]? =sO (I .i64 D[i])
section
variable {S:Nat->Prop} {W W':World} {pb db:Nat} {L:List Pic} {D:List Int}
theorem PRow.xs (h:PRow S W pb L):XsAt W (sO ⟨pb,0,nO⟩) L:=λi hi=>by
 obtain⟨cs,hc,hz,h⟩:=h;obtain⟨vs,vc,fs,fc,⟨h0,h1,h2⟩,hp,hq⟩:=h i hi;refine⟨pb,0,rfl,hc.2.1,vs,vc,fs,fc,⟨?_,?_,?_⟩,hp.at,hq⟩
 ·rw[j0];exact hc.1 _ _ h0
 ·rw[j0];exact hc.1 _ _ h1
 ·rw[j0];exact hc.1 _ _ h2
theorem PRow.mono {S':Nat->Prop}(h:PRow S W pb L)(hs:∀b,S b->b < W.heap.size->S' b):PRow S' W pb L:=by
 obtain⟨cs,hc,hl,h⟩:=h;refine⟨cs,hc,hl,λi hi=> ?_⟩;obtain⟨vs,vc,fs,fc,h0,hp,hq⟩:=h i hi;exact⟨vs,vc,fs,fc,h0,hp.mono hs,hq⟩
theorem PRow.far (h:PRow S W pb L)(hp:W'.heap[pb]? =W.heap[pb]?)(hs:∀b,S b->b < W.heap.size->W'.heap[b]? =W.heap[b]?)(hz:W.heap.size<=W'.heap.size):PRow S W' pb L:=by
 obtain⟨cs,hc,hl,h⟩:=h;refine⟨cs,hc.same hp hz,hl,λi hi=> ?_⟩;obtain⟨vs,vc,fs,fc,h0,hp,hq⟩:=h i hi;exact⟨vs,vc,fs,fc,h0,(hp.same hs hz).mono λb hb _=>hb.1,hq⟩
theorem PRow.call (h:PRow S W pb L)(hb:bl W W'):PRow S W' pb L:=h.far (hb.block pb h.choose_spec.1.2.1) (λb _ hlt=>hb.block b hlt) hb.size
theorem DRow.far (h:DRow W db D)(hp:W'.heap[db]? =W.heap[db]?)(hz:W.heap.size<=W'.heap.size):DRow W' db D:=by
 obtain⟨cs,hc,h⟩:=h;exact⟨cs,hc.same hp hz,h⟩
theorem DRow.call (h:DRow W db D)(hb:bl W W'):DRow W' db D:=h.far (hb.block db h.choose_spec.1.2.1) hb.size
theorem DRow.get (h:DRow W db D){k:Nat}(hk:k < D.length):W.cell? ⟨db,k,nO⟩=sO (I .i64 D[k]):=by
 obtain⟨cs,hc,hz,h⟩:=h;exact hc.1 _ _ (h k hk)
theorem PRow.cell (h:PRow S W pb L){k:Nat}(hk:k < L.length):∃vs vc fs fc,(W.cell? ⟨pb,k * 3,nO⟩=sO (Bb L[k].none)/\W.cell? ⟨pb,k * 3+1,nO⟩=sO (U vs L[k].vq.length vc)/\W.cell? ⟨pb,k * 3+2,nO⟩=sO (U fs L[k].fq.length fc))/\PicOn S W L[k] vs fs/\(L[k].vq.length<=vc/\vc<=maxLen)/\(L[k].fq.length<=fc/\fc<=maxLen)/\pb < W.heap.size/\∀j,W.frozen? ⟨pb,j,nO⟩=false:=by
 obtain⟨cs,hc,hz,h⟩:=h;obtain⟨vs,vc,fs,fc,⟨h0,h1,h2⟩,hp,hv,hf⟩:=h k hk;exact⟨vs,vc,fs,fc,⟨hc.1 _ _ h0,hc.1 _ _ h1,hc.1 _ _ h2⟩,hp,hv,hf,hc.2⟩
theorem PRow.put (h:PRow S W pb L)(hS:∀b,S b->b≠pb){k:Nat}(hk:k < L.length){y:Pic}{vs fs:oA}{vc fc:Nat}(hy:PicOn S W y vs fs)(hv:y.vq.length<=vc/\vc<=maxLen)(hf:y.fq.length<=fc/\fc<=maxLen)(e:W'=bw W pb (k * 3) [Bb y.none,U vs y.vq.length vc,U fs y.fq.length fc]):
  PRow S W' pb (L.set k y)/\(∀q,q≠pb->W'.heap[q]? =W.heap[q]?)/\W.heap.size<=W'.heap.size/\∀{B:Nat} {a:World},B<=pb->Below B a W->Below B a W':=by
 obtain⟨cs,hc,hz,h⟩:=h;have P:=bM hc (k * 3) _ e an;refine⟨⟨_,P.cells,?_,λi hi=> ?_⟩,P.far,P.size,P.low⟩
 ·simp[iO];omega
 ·rw[j8] at hi
  by_cases ek:k=i
  ·subst ek
   refine⟨vs,vc,fs,fc,?_,?_,?_,?_⟩
   ·rw[List.getElem_set_self]
    simp only[iO,j4,j8];refine⟨?_,?_,?_⟩
    ·rw[if_neg aa,if_neg aa,if_pos trivial,if_pos aa]
    ·rw[if_neg aa,if_pos trivial,if_pos aa]
    ·rw[if_pos trivial,if_pos aa]
   ·simpa using(hy.same (λb hb _=>P.far b (hS b hb)) P.size).mono λb hb _=>hb.1
   ·simpa using hv
   ·simpa using hf
  ·obtain⟨vs',vc',fs',fc',⟨h0,h1,h2⟩,hp,hq⟩:=h i hi
   refine⟨vs',vc',fs',fc',?_,?_,?_⟩
   ·rw[j9 ek]
    refine⟨?_,?_,?_⟩
    ·rw[<-h0];simp only[iO,j4];repeat rw[if_neg aa]
    ·rw[<-h1];simp only[iO,j4];repeat rw[if_neg aa]
    ·rw[<-h2];simp only[iO,j4];repeat rw[if_neg aa]
   ·rw[j9 ek]
    exact(hp.same (λb hb _=>P.far b (hS b hb)) P.size).mono λb hb _=>hb.1
   ·rw[j9 ek];exact hq
theorem DRow.put (h:DRow W db D){k:Nat}{v:Int}(e:W'=bw W db k [I .i64 v])(hk:k < D.length):
  DRow W' db (D.set k v)/\(∀q,q≠db->W'.heap[q]? =W.heap[q]?)/\W.heap.size<=W'.heap.size/\∀{B:Nat} {a:World},B<=db->Below B a W->Below B a W':=by
 obtain⟨cs,hc,hz,h⟩:=h;have P:=bM hc k _ e an;refine⟨⟨_,P.cells,?_,λi hi=> ?_⟩,P.far,P.size,P.low⟩
 ·simpa[iO] using hz
 ·rw[j8] at hi
  simp only[iO,j4,List.getElem_set];by_cases ek:k=i
  ·subst ek
   rw[if_pos rfl,if_pos aa,if_pos rfl]
  ·rw[if_neg ek,if_neg ek]
   exact h i hi
end
end
section
open Go.RowKit
attribute [local go_sem ↓] Go.wp_at_zero Go.wp_at_succ
theorem Tryz.info_pic:(Tryz.prog.info? 28).map (λi=>(i.zero,i.size,i.bytes))=sO (sO (Ag #[Bb false,U nO 0 0,U nO 0 0]),3,56):=ag
theorem Tryz.info_intV:(Tryz.prog.info? 3).map (λi=>(i.zero,i.size,i.bytes))=sO (sO (I .i64 0),1,8):=ag
def npC:List Value:=[Bb true,U nO 0 0,U nO 0 0]
def gJ (x:Pic)(vs:oA)(vc:Nat)(fs:oA)(fc k:Nat):List Value:=[Bb x.none,U vs x.vq.length vc,U fs x.fq.length fc]++(j1 k npC).flatten
def kV (k:Nat):List Value:=I .i64 1::j1 k (I .i64 0)
theorem rm {x:Pic}{vs:oA}{vc:Nat}{fs:oA}{fc k:Nat}:gJ x vs vc fs fc k++npC=gJ x vs vc fs fc (k+1):=by
 unfold gJ;rw[List.append_assoc,q5,List.flatten_append];rfl
theorem BL {k:Nat}:kV k++[I .i64 0]=kV (k+1):=by
 unfold kV;rw[q5];rfl
theorem MS {k i j:Nat}(hi:i < k)(hj:j < 3):(j1 k npC).flatten[i * 3+j]? =npC[j]? :=by
 induction k generalizing i with
 |zero=>omega
 |succ k ih=>
  rw[List.replicate_succ,List.flatten_cons];cases i with
  |zero=>rw[List.getElem?_append_left (by simp[npC];omega)];simp
  |succ i=>
   rw[z5 (by simp[npC];omega)];have e:(i+1) * 3+j - npC.length=i * 3+j:=by simp[npC];omega
   rw[e];exact ih aa
theorem wC {W:World}{B z g k cap:Nat}{e:TypeId}{xs:List Value}(h:W.ownsRow B e z (U (sO ⟨g,0,nO⟩) k cap) k xs):Cells W g xs:=by
 have hl:=h.1;refine⟨λj v hj=> ?_,(h.lt g rfl).2,λj=>h.frozenAt j⟩;have:j < xs.length:=by
  apply Decidable.byContradiction;intro hn;rw[List.getElem?_eq_none aa] at hj;cases hj
 rw[h.cellAt j aa];exact hj
theorem Fl (W:World):PicAt W nonePic nO none:=⟨λi hi=>absurd hi oZ,λi hi=>absurd hi oZ⟩
theorem An {w W:World}{B g k cap:Nat}{e:TypeId}{x:Pic}{vs:oA}{vc:Nat}{fs:oA}{fc:Nat}(h:W.ownsRow B e 3 (U (sO ⟨g,0,nO⟩) (k+1) cap) (k+1) (gJ x vs vc fs fc k))(hb:bl w W)(hx:PicAt w x vs fs)(h1:x.vq.length<=vc/\vc<=maxLen)(h2:x.fq.length<=fc/\fc<=maxLen):PRow (λb=>b < w.heap.size) W g (x::j1 k nonePic):=by
 refine⟨_,wC h,by rw[h.1];simp,λi hi=> ?_⟩;cases i with
 |zero=>exact⟨vs,vc,fs,fc,⟨rfl,rfl,rfl⟩,λw2 h2 hz=>hx.same (λb hlt=>(h2 b hlt (lL hlt hb.size)).trans (hb.block b hlt)) (lT hb.size hz),h1,h2⟩
 |succ i=>
  have hi':i < k:=d8;have ex:(x::j1 k nonePic)[i+1]=nonePic:=ah;rw[ex];have q:∀j,j < 3->(gJ x vs vc fs fc k)[(i+1) * 3+j]? =npC[j]? :=λj hj=>by
   unfold gJ;rw[z5 an];have e:(i+1) * 3+j - [Value.bool x.none,U vs x.vq.length vc,U fs x.fq.length fc].length=i * 3+j:=an;rw[e];exact MS hi' hj
  exact⟨nO,0,nO,0,⟨q 0 aa,q 1 aa,q 2 aa⟩,λw2 _ _=>Fl w2,⟨lR _,j2 _⟩,⟨lR _,j2 _⟩⟩
theorem Kx {W:World}{B g k cap:Nat}{e:TypeId}(h:W.ownsRow B e 1 (U (sO ⟨g,0,nO⟩) (k+1) cap) (k+1) (kV k)):DRow W g (1::j1 k 0):=by
 refine⟨_,wC h,by rw[h.1];simp,λi hi=> ?_⟩;cases i with
 |zero=>rfl
 |succ i=>
  have hi':i < k:=d8;simp[kV,hi']
structure NewAt (w:World) (V F:Int) (s:oA) (c:lI) (cap:Nat) (x:Pic) (vs:oA) (vc:Nat) (fs:oA) (fc:Nat) (i j pb pc db dc:Nat) (W:World):Prop where
 st:Cells W (w.heap.size+1+1+1+1) [I .i64 V,I .i64 F,U s c.length cap,U (sO ⟨pb,0,nO⟩) (i+1) pc,U (sO ⟨db,0,nO⟩) (j+1) dc]
 pr:W.ownsRow (w.heap.size+1+1) 28 3 (U (sO ⟨pb,0,nO⟩) (i+1) pc) (i+1) (gJ x vs vc fs fc i)
 dr:W.ownsRow (w.heap.size+1+1) 3 1 (U (sO ⟨db,0,nO⟩) (j+1) dc) (j+1) (kV j)
 ne:pb≠db/\pb≠w.heap.size+1+1+1+1/\db≠w.heap.size+1+1+1+1
 lo:bl w W
 sz:w.heap.size+1+1+1+1 < W.heap.size
theorem gT (w:World)(t:TypeId)(cs:List Value):∀ad,sO (⟨w.heap.size,0,nO⟩:Addr)=sO ad->∀j u,cs[j]? =sO u->(w.alloc (Cc cs.toArray t)).cell? (ad.add j)=sO u:=by
 intro ad e j u hj;cases e;have pl:(⟨w.heap.size,0,nO⟩:Addr).add j=⟨w.heap.size,j,nO⟩:=vN;rw[pl];exact(Cells.new w t cs).1 j u hj
theorem NewAt.growP {w W W4:World}{V F:Int}{s:oA}{c:lI}{cap:Nat}{x:Pic}{vs:oA}{vc:Nat}{fs:oA}{fc i j pb pc db dc:Nat}{O:Obj}{v':Value}(N:NewAt w V F s c cap x vs vc fs fc i j pb pc db dc W)(hown:W4.ownsRow (w.heap.size+1+1) 28 3 v' (i+1+1) (gJ x vs vc fs fc i++npC))(hgrow:(W.alloc O).grownBy W4 (sO pb))(hat:v'.ownBlock=sO pb\/v'.ownBlock=sO (W.alloc O).heap.size):
  ∃g cp,v'=U (sO ⟨g,0,nO⟩) (i+1+1) cp/\Cells W4 (w.heap.size+1+1+1+1) [I .i64 V,I .i64 F,U s c.length cap,U (sO ⟨pb,0,nO⟩) (i+1) pc,U (sO ⟨db,0,nO⟩) (j+1) dc]/\∀wq,wq=bw W4 (w.heap.size+1+1+1+1) 3 [v']->NewAt w V F s c cap x vs vc fs fc (i+1) j g cp db dc wq:=by
 have N':=N;obtain⟨n1,n2,n3,n4,n5,n6⟩:=N;have hdb:=n3.lt db rfl;have hpb:=n2.lt pb rfl;have hz:(W.alloc O).heap.size=W.heap.size+1:=zA _ _;have hz4:=hgrow.size;have far:∀b,b < W.heap.size->b≠pb->W4.heap[b]? =W.heap[b]? :=λb hb hne=>(hgrow.block b aa (λe=>hne (by cases e;rfl))).trans (Below.heap_alloc _ _ _ hb);have st4:=n1.same (far _ n6 (Ne.symm n4.2.1)) aa;have dr4:=(n3.kept (j3 W O nO) (.inr ge)).kept hgrow (.inr (λe=>n4.1 (by cases e;rfl)));have lo4:bl w W4:=(n5.alloc aa O).grown hgrow aa (λk hk=>by cases hk;omega);rcases hown.2 with⟨_,h⟩|⟨g,cp,cur,rfl,-⟩
 ·omega
 have hg:=hown.lt g rfl;have hgn:g≠db/\g≠w.heap.size+1+1+1+1:=by
  rcases hat with h|h
  ·simp only[j5,j6.injEq] at h
   rw[h];exact⟨n4.1,n4.2.1⟩
  ·simp only[j5,j6.injEq] at h
   rw[h,hz];exact⟨aa,aa⟩
 refine⟨g,cp,rfl,st4,λwq e=> ?_⟩;have PQ:=bM st4 3 _ e;refine⟨PQ.cells,?_,?_,⟨hgn.1,hgn.2,n4.2.2⟩,PQ.low aa lo4,by have:=PQ.size;omega⟩
 ·rw[rm] at hown
  exact ci hown (λk hk=>by cases hk;exact PQ.far _ hgn.2)
 ·exact ci dr4 (λk hk=>by cases hk;exact PQ.far _ n4.2.2)
theorem NewAt.growD {w W W4:World}{V F:Int}{s:oA}{c:lI}{cap:Nat}{x:Pic}{vs:oA}{vc:Nat}{fs:oA}{fc i j pb pc db dc:Nat}{O:Obj}{v':Value}(N:NewAt w V F s c cap x vs vc fs fc i j pb pc db dc W)(hown:W4.ownsRow (w.heap.size+1+1) 3 1 v' (j+1+1) (kV j++[I .i64 0]))(hgrow:(W.alloc O).grownBy W4 (sO db))(hat:v'.ownBlock=sO db\/v'.ownBlock=sO (W.alloc O).heap.size):
  ∃g cp,v'=U (sO ⟨g,0,nO⟩) (j+1+1) cp/\Cells W4 (w.heap.size+1+1+1+1) [I .i64 V,I .i64 F,U s c.length cap,U (sO ⟨pb,0,nO⟩) (i+1) pc,U (sO ⟨db,0,nO⟩) (j+1) dc]/\∀wq,wq=bw W4 (w.heap.size+1+1+1+1) 4 [v']->NewAt w V F s c cap x vs vc fs fc i (j+1) pb pc g cp wq:=by
 obtain⟨n1,n2,n3,n4,n5,n6⟩:=N;have hdb:=n3.lt db rfl;have hpb:=n2.lt pb rfl;have hz:(W.alloc O).heap.size=W.heap.size+1:=zA _ _;have hz4:=hgrow.size;have far:∀b,b < W.heap.size->b≠db->W4.heap[b]? =W.heap[b]? :=λb hb hne=>(hgrow.block b aa (λe=>hne (by cases e;rfl))).trans (Below.heap_alloc _ _ _ hb);have st4:=n1.same (far _ n6 (Ne.symm n4.2.2)) aa;have pr4:=(n2.kept (j3 W O nO) (.inr ge)).kept hgrow (.inr (λe=>n4.1 (by cases e;rfl)));have lo4:bl w W4:=(n5.alloc aa O).grown hgrow aa (λk hk=>by cases hk;omega);rcases hown.2 with⟨_,h⟩|⟨g,cp,cur,rfl,-⟩
 ·omega
 have hg:=hown.lt g rfl;have hgn:pb≠g/\g≠w.heap.size+1+1+1+1:=by
  rcases hat with h|h
  ·simp only[j5,j6.injEq] at h
   rw[h];exact⟨n4.1,n4.2.2⟩
  ·simp only[j5,j6.injEq] at h
   rw[h,hz];exact⟨aa,aa⟩
 refine⟨g,cp,rfl,st4,λwq e=> ?_⟩;have PQ:=bM st4 4 _ e;refine⟨PQ.cells,?_,?_,⟨hgn.1,n4.2.1,hgn.2⟩,PQ.low aa lo4,by have:=PQ.size;omega⟩
 ·exact ci pr4 (λk hk=>by cases hk;exact PQ.far _ n4.2.1)
 ·rw[BL] at hown
  exact ci hown (λk hk=>by cases hk;exact PQ.far _ hgn.2)
def Mn (w:World)(V F:Int)(s:oA)(c:lI)(cap:Nat)(x:Pic)(e:Ending)(w':World):Prop:=∃pb pc db dc,e=Rt (Pp (sO ⟨w.heap.size+1+1+1+1,0,nO⟩))/\Cells w' (w.heap.size+1+1+1+1) [I .i64 V,I .i64 F,U s c.length cap,U (sO ⟨pb,0,nO⟩) (c.length+1) pc,U (sO ⟨db,0,nO⟩) (c.length+1) dc]/\PRow (λb=>b < w.heap.size) w' pb (x::j1 c.length nonePic)/\DRow w' db (1::j1 c.length 0)/\(w.heap.size<=pb/\w.heap.size<=db)/\(pb≠db/\pb≠w.heap.size+1+1+1+1/\db≠w.heap.size+1+1+1+1)/\bl w w'
theorem Ij (V F:Int)(s:oA)(c:lI)(cap:Nat)(x:Pic)(vs:oA)(vc:Nat)(fs:oA)(fc:Nat)(w:World)(hx:PicAt w x vs fs)(h1:x.vq.length<=vc/\vc<=maxLen)(h2:x.fq.length<=fc/\fc<=maxLen)(h60:c.length<=60):
  Calls pG 48 #[pv V F s c cap,xv x vs vc fs fc] w λe w'=>Mn w V F s c cap x e w':=by
 obtain⟨ti,hi,hz0,hz1,hz2⟩:=info_parts Tryz.info_pic;obtain⟨tk,hk,hx0,hx1,hx2⟩:=info_parts Tryz.info_intV;have HX:=ae hx;clear hx;have N0:NewAt w V F s c cap x vs vc fs fc 0 0 (w.heap.size+1+1) 1 (w.heap.size+1+1+1) 1 (((((w.alloc (Cc #[I .i64 V,I .i64 F,U s c.length cap] 24)).alloc (Cc #[Bb x.none,U vs x.vq.length vc,U fs x.fq.length fc] 28)).alloc (Cc #[Bb x.none,U vs x.vq.length vc,U fs x.fq.length fc] 28)).alloc (Cc #[I .i64 1] 3)).alloc (Cc #[I .i64 V,I .i64 F,U s c.length cap,U (sO ⟨w.heap.size+1+1,0,nO⟩) 1 1,U (sO ⟨w.heap.size+1+1+1,0,nO⟩) 1 1] 106)):=by
  have B:Below w.heap.size w (((((w.alloc (Cc #[I .i64 V,I .i64 F,U s c.length cap] 24)).alloc (Cc #[Bb x.none,U vs x.vq.length vc,U fs x.fq.length fc] 28)).alloc (Cc #[Bb x.none,U vs x.vq.length vc,U fs x.fq.length fc] 28)).alloc (Cc #[I .i64 1] 3)).alloc (Cc #[I .i64 V,I .i64 F,U s c.length cap,U (sO ⟨w.heap.size+1+1,0,nO⟩) 1 1,U (sO ⟨w.heap.size+1+1+1,0,nO⟩) 1 1] 106)):=ai;refine⟨?_,?_,?_,⟨aa,aa,aa⟩,B,ah⟩
  ·have h:=Cells.new (((((w.alloc (Cc #[I .i64 V,I .i64 F,U s c.length cap] 24)).alloc (Cc #[Bb x.none,U vs x.vq.length vc,U fs x.fq.length fc] 28)).alloc (Cc #[Bb x.none,U vs x.vq.length vc,U fs x.fq.length fc] 28)).alloc (Cc #[I .i64 1] 3))) 106 [I .i64 V,I .i64 F,U s c.length cap,U (sO ⟨w.heap.size+1+1,0,nO⟩) 1 1,U (sO ⟨w.heap.size+1+1+1,0,nO⟩) 1 1]
   rw[zA,zA,zA,zA] at h;exact h
  ·have h:=q6 (base:=w.heap.size+1+1) (e:=28) (size:=3) ((w.alloc (Cc #[I .i64 V,I .i64 F,U s c.length cap] 24)).alloc (Cc #[Bb x.none,U vs x.vq.length vc,U fs x.fq.length fc] 28)) #[Bb x.none,U vs x.vq.length vc,U fs x.fq.length fc] 1 ah aj rfl
   rw[zA,zA] at h;exact(h.kept (j3 _ _ nO) (.inr ge)).kept (j3 _ _ nO) (.inr ge)
  ·have h:=q6 (base:=w.heap.size+1+1) (e:=3) (size:=1) (((w.alloc (Cc #[I .i64 V,I .i64 F,U s c.length cap] 24)).alloc (Cc #[Bb x.none,U vs x.vq.length vc,U fs x.fq.length fc] 28)).alloc (Cc #[Bb x.none,U vs x.vq.length vc,U fs x.fq.length fc] 28)) #[I .i64 1] 1 ah aj rfl
   rw[zA,zA,zA] at h;exact h.kept (j3 _ _ nO) (.inr ge)
 have P0:Cells (((((w.alloc (Cc #[I .i64 V,I .i64 F,U s c.length cap] 24)).alloc (Cc #[Bb x.none,U vs x.vq.length vc,U fs x.fq.length fc] 28)).alloc (Cc #[Bb x.none,U vs x.vq.length vc,U fs x.fq.length fc] 28)).alloc (Cc #[I .i64 1] 3)).alloc (Cc #[I .i64 V,I .i64 F,U s c.length cap,U (sO ⟨w.heap.size+1+1,0,nO⟩) 1 1,U (sO ⟨w.heap.size+1+1+1,0,nO⟩) 1 1] 106)) w.heap.size [I .i64 V,I .i64 F,U s c.length cap]:=(Cells.new w _ [_,_,_]).call ai;go_enter Tryz.func48,Tryz.ntmps48;go_upto_region 2 with fail
 generalize ((((w.alloc (Cc #[I .i64 V,I .i64 F,U s c.length cap] 24)).alloc (Cc #[Bb x.none,U vs x.vq.length vc,U fs x.fq.length fc] 28)).alloc (Cc #[Bb x.none,U vs x.vq.length vc,U fs x.fq.length fc] 28)).alloc (Cc #[I .i64 1] 3)).alloc (Cc #[I .i64 V,I .i64 F,U s c.length cap,U (sO ⟨w.heap.size+1+1,0,nO⟩) 1 1,U (sO ⟨w.heap.size+1+1+1,0,nO⟩) 1 1] 106)=w5 at *;have p2:=P0.1 2 _ rfl;go_wp2;clear p2 P0;go_loopw [15] (λi wr=>∃k pb pc db dc:Nat,k<=c.length/\i=I .i64 k/\Hid (NewAt w V F s c cap x vs vc fs fc k k pb pc db dc wr)) (λi _=>c.length - (intOf i).toNat)
 case atStart=>exact⟨0,_,_,_,_,j2 _,rfl,N0⟩
 case round=>
  clear N0;obtain⟨k,pb,pc,db,dc,hk1,rfl,HN⟩:=hrel;by_cases hlt:k < c.length;rotate_left
  ·have n1:¬(k:Int) < (c.length:Int):=by omega
   have ek:k=c.length:=aa;subst ek;go_wp2;go_ret;have N:=HN.out;have h1':=N.pr.lt pb rfl;have h2':=N.dr.lt db rfl;exact⟨pb,pc,db,dc,rfl,N.st,An N.pr N.lo HX.out h1 h2,Kx N.dr,⟨aa,aa⟩,N.ne,N.lo⟩
  have n0:(0:Int)<=(k:Int):=aa;have n1:(k:Int) < (c.length:Int):=aa;have q3:=HN.out.st.1 3 _ rfl;have S4:=HN.out.pr.kept (j3 wr (Cc #[Bb true,U nO 0 0,U nO 0 0] 28) nO) (.inr ge);have zw:=HN.out.sz;go_wp2_with (at_builtin;refine aZ _ rfl _ _ 47 rfl (w.heap.size+1+1) 28 ti (Ag #[Bb false,U nO 0 0,U nO 0 0]) 3 56 Tryz.underlying47 hi hz0 hz1 hz2 rfl aj _ _ _ rfl S4 (sO ⟨wr.heap.size,0,nO⟩) 1 1 npC rfl rfl (λh=>aX) ?qa2 ?qa3 ?qa4 ?qa5 ?qa6 ?_)
  case qa2=>exact gT wr 28 npC
  case qa3=>intro u hu;simp[npC] at hu;rcases hu with rfl|rfl<;>rfl
  case qa4=>unfold maxLen;omega
  case qa5=>omega
  case qa6=>rw[zA];omega
  intro v' w4 hown hgrow hat;obtain⟨g,cp,rfl,ST4,HNX⟩:=HN.out.growP hown hgrow fa;have HNX:=ae HNX;clear hown hgrow hat S4 q3 HN zw;have q3:=ST4.1 3 _ rfl;have q3f:=ST4.2.2 3;go_upto_region 5 with fail
  obtain⟨wq,ewq⟩:∃q,q=bw w4 (w.heap.size+1+1+1+1) 3 [U (sO ⟨g,0,nO⟩) (k+1+1) cp]:=⟨_,rfl⟩;have N5:=ae (HNX.out wq ewq);simp only[bw] at ewq;rw[<-ewq];clear ewq HNX q3 q3f ST4;have q4:=N5.out.st.1 4 _ rfl;have S4:=N5.out.dr.kept (j3 wq (Cc #[I .i64 0] 3) nO) (.inr ge);have zw:=N5.out.sz;go_wp2_with (at_builtin;refine aZ _ rfl _ _ 34 rfl (w.heap.size+1+1) 3 tk (I .i64 0) 1 8 Tryz.underlying34 hk hx0 hx1 hx2 rfl aj _ _ _ rfl S4 (sO ⟨wq.heap.size,0,nO⟩) 1 1 [I .i64 0] rfl rfl (λh=>aX) ?qb2 ?qb3 ?qb4 ?qb5 ?qb6 ?_)
  case qb2=>exact gT wq 3 [I .i64 0]
  case qb3=>intro u hu;simp at hu;rw[hu];rfl
  case qb4=>unfold maxLen;omega
  case qb5=>omega
  case qb6=>rw[zA];omega
  intro v' w6 hown hgrow hat;obtain⟨g2,cp2,rfl,ST4,HNX⟩:=N5.out.growD hown hgrow fa;have HNX:=ae HNX;clear hown hgrow hat S4 q4 N5 zw;have q4:=ST4.1 4 _ rfl;have q4f:=ST4.2.2 4;go_upto_region 6 with fail
  obtain⟨wz,ewz⟩:∃q,q=bw w6 (w.heap.size+1+1+1+1) 4 [U (sO ⟨g2,0,nO⟩) (k+1+1) cp2]:=⟨_,rfl⟩;have N6:=ae (HNX.out wz ewz);simp only[bw] at ewz;rw[<-ewz];clear ewz HNX q4 q4f ST4;go_wp2;go_roundw
  case rel=>exact⟨k+1,g,cp,g2,cp2,aa,aJ,N6.out⟩
  case measure=>simp[intOf];omega
def As:Prop:=∀(V F:Int) (s:oA) (c:lI) (cap:Nat) (w:World),aw V F c=0->Calls pG 69 #[pv V F s c cap] w λe w'=>(∃vs vc fs fc,e=Rt (Ag #[Bb (bE V F c).none,U vs (bE V F c).vq.length vc,U fs (bE V F c).fq.length fc])/\PicAt w' (bE V F c) vs fs/\((bE V F c).vq.length<=vc/\vc<=maxLen)/\((bE V F c).fq.length<=fc/\fc<=maxLen))/\bl w w'
structure BegAt (w1:World) (x:Pic) (vs:oA) (vc:Nat) (fs:oA) (fc k g cp:Nat) (W:World):Prop where
 pr:W.ownsRow w1.heap.size 28 3 (U (sO ⟨g,0,nO⟩) (k+1) cp) (k+1) (gJ x vs vc fs fc k)
 lo:bl w1 W
theorem BegAt.new {w1:World}{x:Pic}{vs:oA}{vc:Nat}{fs:oA}{fc:Nat}:BegAt w1 x vs vc fs fc 0 w1.heap.size 1 (w1.alloc (Cc #[Bb x.none,U vs x.vq.length vc,U fs x.fq.length fc] 28)):=by
 refine⟨?_,ai⟩;exact q6 (base:=w1.heap.size) (e:=28) (size:=3) w1 #[Bb x.none,U vs x.vq.length vc,U fs x.fq.length fc] 1 ah aj rfl
theorem BegAt.grow {w1 W W4:World}{x:Pic}{vs:oA}{vc:Nat}{fs:oA}{fc k g cp:Nat}{O:Obj}{v':Value}(N:BegAt w1 x vs vc fs fc k g cp W)(hown:W4.ownsRow w1.heap.size 28 3 v' (k+1+1) (gJ x vs vc fs fc k++npC))(hgrow:(W.alloc O).grownBy W4 (sO g)):
  ∃g' cp',v'=U (sO ⟨g',0,nO⟩) (k+1+1) cp'/\BegAt w1 x vs vc fs fc (k+1) g' cp' W4:=by
 obtain⟨n1,n2⟩:=N;have hg:=n1.lt g rfl;have hz:(W.alloc O).heap.size=W.heap.size+1:=zA _ _;have lo4:bl w1 W4:=(n2.alloc (by have:=n2.size;omega) O).grown hgrow (by have:=n2.size;omega) (λk hk=>by cases hk;omega)
 rcases hown.2 with⟨_,h⟩|⟨g',cp',cur,rfl,-⟩
 ·omega
 rw[rm] at hown;exact⟨g',cp',rfl,hown,lo4⟩
structure DocAt (w:World) (V F:Int) (s:oA) (c:lI) (cap pb:Nat) (L:List Pic) (W:World):Prop where
 pr:PRow (λb=>b≠pb) W pb L
 pg:PrAt W w.heap.size V F s c cap
 lo:bl w W
theorem BegAt.doc {w w1 W:World}{V F:Int}{s:oA}{c:lI}{cap:Nat}{vs:oA}{vc:Nat}{fs:oA}{fc g cp:Nat}(h:BegAt w1 (bE V F c) vs vc fs fc c.length g cp W)(hx:PicAt w1 (bE V F c) vs fs)(h1:(bE V F c).vq.length<=vc/\vc<=maxLen)(h2:(bE V F c).fq.length<=fc/\fc<=maxLen)(hp:PrAt w1 w.heap.size V F s c cap)(hb:bl w w1)(hz:w.heap.size < w1.heap.size):DocAt w V F s c cap g (aI V F c 0) W/\w.heap.size < g:=by
 have hg:=h.pr.lt g rfl;exact⟨⟨(An h.pr h.lo hx h1 h2).mono λb hb _=>aa,hp.low h.lo hz,hb.trans (h.lo.mono hb.size)⟩,aa⟩
def CZ:Prop:=∀(T:Nat->Prop) (V F:Int) (s:oA) (c:lI) (cap:Nat) (at_:Int) (x:Pic) (vs:oA) (vc:Nat) (fs:oA) (fc:Nat) (w:World),CodeAt w s c->PicOn T w x vs fs->aw V F c=0->aK V F c x=0->0<=at_->at_ < c.length->x.vq.length<=vc/\vc<=maxLen->x.fq.length<=fc/\fc<=maxLen->Calls pG 59 #[pv V F s c cap,I .i64 at_,xv x vs vc fs fc] w λe w'=>bU (λb=>T b\/w.heap.size<=b) w' e (aA (bK c at_) at_ x)/\bl w w'
def Cv:Prop:=∀(S:Nat->Prop) (V F:Int) (c:lI) (wide:Bool) (x y:Pic) (vs1:oA) (vc1:Nat) (fs1:oA) (fc1:Nat) (vs2:oA) (vc2:Nat) (fs2:oA) (fc2:Nat) (w:World),PicOn S w x vs1 fs1->PicOn S w y vs2 fs2->x.vq.length<=vc1/\vc1<=maxLen->x.fq.length<=fc1/\fc1<=maxLen->y.vq.length<=vc2/\vc2<=maxLen->y.fq.length<=fc2/\fc2<=maxLen->aw V F c=0->aK V F c x=0->aK V F c y=0->Calls pG 70 #[xv x vs1 vc1 fs1 fc1,xv y vs2 vc2 fs2 fc2,Bb wide] w λe w'=>(∃us uc gs gc,e=Rt (Ag #[Bb (aG (am wide) x y).none,U us (aG (am wide) x y).vq.length uc,U gs (aG (am wide) x y).fq.length gc])/\PicOn (λb=>S b\/w.heap.size<=b) w' (aG (am wide) x y) us gs/\((aG (am wide) x y).vq.length<=uc/\uc<=maxLen)/\((aG (am wide) x y).fq.length<=gc/\gc<=maxLen))/\bl w w'
theorem DocAt.call {w W W':World}{V F:Int}{s:oA}{c:lI}{cap g:Nat}{L:List Pic}(h:DocAt w V F s c cap g L W)(hb:bl W W'):DocAt w V F s c cap g L W':=⟨h.pr.call hb,h.pg.call hb,h.lo.trans (hb.mono h.lo.size)⟩
structure JnAt (w:World) (g yb:Nat) (y:Pic) (us:oA) (uc:Nat) (gs:oA) (gc:Nat) (W:World):Prop where
 cell:Cells W yb [Bb y.none,U us y.vq.length uc,U gs y.fq.length gc]
 pic:PicOn (λb=>b≠g) W y us gs
 c1:y.vq.length<=uc/\uc<=maxLen
 c2:y.fq.length<=gc/\gc<=maxLen
 lo:bl w W
theorem BE {V F:Int}{c:lI}(h0:aw V F c=0){n i:Int}{E:List Edg}(hE:∀e∈E,gP V F c e){L L':List Pic}{b b':Bool}(hL:XsOk V F c L)(q:Nat)(h:(E.take q).foldl (bT n i) (L,b)=(L',b')):XsOk V F c L':=by
 have:=(oS (n:=n) (i:=i) h0 (E:=E.take q) (s:=(L,b)) hL λe he=>hE e (List.mem_of_mem_take he)).1;rw[h] at this;exact this
theorem Bh {n i:Int}{E:List Edg}{s t:List Pic×Bool}{q:Nat}(hq:q < E.length)(h:(E.take q).foldl (bT n i) s=t):(E.take (q+1)).foldl (bT n i) s=bT n i t E[q]:=by
 rw[List.take_succ_eq_append_getElem hq,q7,h];rfl
theorem Fq {V F:Int}{c:lI}(h0:aw V F c=0){n i:Int}{L:List Pic}{b:Bool}{t:Nat}{y z:Pic}(hz:bm L (t:Int)=z)(h1:aK V F c z=0)(h2:aK V F c y=0)(h:aG (am (cY n i t)) z y=z):bT n i (L,b) ⟨(t:Int),y⟩=(L,b):=by
 unfold bT;rw[if_pos (by simp only[hz];exact(lz h0 h1 h2).1 h)]
theorem FP {V F:Int}{c:lI}(h0:aw V F c=0){n i:Int}{L:List Pic}{b:Bool}{t:Nat}{y z:Pic}(hz:bm L (t:Int)=z)(h1:aK V F c z=0)(h2:aK V F c y=0)(h:¬aG (am (cY n i t)) z y=z):bT n i (L,b) ⟨(t:Int),y⟩=(L.set t (aG (am (cY n i t)) z y),true):=by
 unfold bT;rw[if_neg (by simp only[hz];exact λk=>h ((lz h0 h1 h2).2 k))];simp only[hz,Int.toNat_natCast]
def Af (V F:Int)(c:lI)(e:Ending)(w':World):Prop:=∃(m pb pc:Nat),SolvedAt V F c m/\m<=200000000000000/\e=Rt (Tu #[U (sO ⟨pb,0,nO⟩) (c.length+1) pc,I .i64 ((m+1:Nat):Int)])/\XsAt w' (sO ⟨pb,0,nO⟩) (aI V F c m)
def RndIs (V F:Int)(c:lI)(m:Nat)(b:Bool):Prop:=(b=true/\∀k,k < m->(dh c ((k+1:Nat):Int) (aI V F c k)).2=true)\/(b=false/\∃m',m=m'+1/\SolvedAt V F c m')
theorem RndIs.next {V F:Int}{c:lI}{m:Nat}{L:List Pic}{b:Bool}(h:∀k,k < m->(dh c ((k+1:Nat):Int) (aI V F c k)).2=true)(hr:dh c ((m+1:Nat):Int) (aI V F c m)=(L,b)):RndIs V F c (m+1) b:=by
 cases b with
 |true=>exact .inl ⟨rfl,λk hk=>by
   by_cases e:k=m
   ·rw[e,hr]
   ·exact h k aa⟩
 |false=>exact .inr ⟨rfl,m,rfl,h,by rw[hr]⟩
theorem Ci {V F:Int}{c:lI}{m:Nat}(h0:aw V F c=0)(h:SolvedAt V F c m):m<=200000000000000:=by
 have:=kn h0 h.1;omega
theorem s8 {p:Prop}(h:p:=by
 refine vH 15 ?_ ?_;refine wpAnyH_ready (rs:=[16,17]) ag ah ?_;refine AllReadyH.cons rfl (λK hK=> ?_) (AllReadyH.cons rfl (λK hK=> ?_) AllReadyH.nil)
 ·go_simp
  refine(HJN.out _ w6 B6).mono ?_;rintro e w7 ⟨⟨Y,js,jc,ks,kc,HYE,rfl,JP,JC1,JC2⟩,hb7⟩;have B7:=B6.trans (hb7.mono (B6.size));have J7:PicOn (λb=>b≠g) w7 Y js ks:=JP.mono λb hb _=>by
   rcases hb with h|h
   ·exact h.1
   ·have:=B6.size;omega
  clear JP;refine hK.out _ _ (HKZ.out _ B7) (λhHeld7=> ?_);clear hK K hb7 B6;refine sm ?_;refine wpAnyH_ready (rs:=[17]) ag ah ?_;refine AllReadyH.cons rfl (λK hK=> ?_) AllReadyH.nil;go_simp;have hb8:Below w7.heap.size w7 (w7.alloc (.cells #[.bool false,.slice none 0 0,.slice none 0 0] 28)):=ai;have B8:=B7.trans (hb8.mono (B7.size));have A8:Cells (w7.alloc (.cells #[.bool false,.slice none 0 0,.slice none 0 0] 28)) w7.heap.size [.bool false,.slice none 0 0,.slice none 0 0]:=Cells.new w7 28 [.bool false,.slice none 0 0,.slice none 0 0];have zyb:wr.heap.size<=w7.heap.size:=B7.size;have J8:PicOn (λb=>b≠g/\b≠w7.heap.size) (w7.alloc (.cells #[.bool false,.slice none 0 0,.slice none 0 0] 28)) Y js ks:=(J7.mono λb hb hlt=>⟨hb,Nat.ne_of_lt hlt⟩).call hb8;clear J7;clear B7;refine hK.out _ _ (HKZ.out _ B8) (λhHeld8=> ?_);clear hK K hb8;refine sm ?_;generalize w7.alloc (.cells #[.bool false,.slice none 0 0,.slice none 0 0] 28)=w8 at *;generalize w7.heap.size=yb at *;refine wpAnyH_ready (rs:=[18]) ag ah ?_;refine AllReadyH.cons rfl (λK hK=> ?_) AllReadyH.nil;have r0:=A8.1 0 _ rfl;have r1:=A8.1 1 _ rfl;have r2:=A8.1 2 _ rfl;have f0:=A8.2.2 0;have f1:=A8.2.2 1;have f2:=A8.2.2 2;go_simp;have A9:Cells (((w8.setCell ⟨yb,0,none⟩ (.bool Y.none)).setCell ⟨yb,1,none⟩ (.slice js Y.vq.length jc)).setCell ⟨yb,2,none⟩ (.slice ks Y.fq.length kc)) yb [.bool Y.none,.slice js Y.vq.length jc,.slice ks Y.fq.length kc]:=((A8.put 0 ah _).put 1 ah _).put 2 ah _;have B9:bl wr (((w8.setCell ⟨yb,0,none⟩ (.bool Y.none)).setCell ⟨yb,1,none⟩ (.slice js Y.vq.length jc)).setCell ⟨yb,2,none⟩ (.slice ks Y.fq.length kc)):=((B8.setCell zyb _).setCell zyb _).setCell zyb _;have hch:∀q,q≠yb->(((w8.setCell ⟨yb,0,none⟩ (.bool Y.none)).setCell ⟨yb,1,none⟩ (.slice js Y.vq.length jc)).setCell ⟨yb,2,none⟩ (.slice ks Y.fq.length kc)).heap[q]? =w8.heap[q]? :=λq hq=>uX;have hcz:w8.heap.size<=(((w8.setCell ⟨yb,0,none⟩ (.bool Y.none)).setCell ⟨yb,1,none⟩ (.slice js Y.vq.length jc)).setCell ⟨yb,2,none⟩ (.slice ks Y.fq.length kc)).heap.size:=bx;have J9:PicOn (λb=>b≠g) (((w8.setCell ⟨yb,0,none⟩ (.bool Y.none)).setCell ⟨yb,1,none⟩ (.slice js Y.vq.length jc)).setCell ⟨yb,2,none⟩ (.slice ks Y.fq.length kc)) Y js ks:=(J8.same (λb hb _=>hch b hb.2) hcz).mono λb hb _=>hb.1.1;refine hK.out _ _ (HKZ.out _ B9) (λhHeld9=> ?_);clear hK K r0 r1 r2 f0 f1 f2 A8 B8 J8 hch hcz;refine sm ?_;generalize (((w8.setCell ⟨yb,0,none⟩ (.bool Y.none)).setCell ⟨yb,1,none⟩ (.slice js Y.vq.length jc)).setCell ⟨yb,2,none⟩ (.slice ks Y.fq.length kc))=w9 at *;refine wpAnyH_done ag ?_ _;first|refine hK1 _ _ (Met.intro (hJ1 _ _ ?_))|refine Met.intro (hJ1 _ _ ?_)|refine hJ1 _ _ ?_
  (repeat apply Exists.intro)
  refine⟨?_,rfl⟩;exact⟨yb,js,jc,ks,kc,rfl,CV⟩
 ·go_simp
  have hb7:Below w6.heap.size w6 (w6.alloc (.cells #[.bool false,.slice none 0 0,.slice none 0 0] 28)):=ai;have B7:=B6.trans (hb7.mono (B6.size));have A7:Cells (w6.alloc (.cells #[.bool false,.slice none 0 0,.slice none 0 0] 28)) w6.heap.size [.bool false,.slice none 0 0,.slice none 0 0]:=Cells.new w6 28 [.bool false,.slice none 0 0,.slice none 0 0];have zyb:wr.heap.size<=w6.heap.size:=B6.size;clear B6;refine hK.out _ _ (HKZ.out _ B7) (λhHeld7=> ?_);clear hK K hb7;refine sm ?_;generalize w6.alloc (.cells #[.bool false,.slice none 0 0,.slice none 0 0] 28)=w7 at *;generalize w6.heap.size=yb at *;refine wpAnyH_ready (rs:=[16]) ag ah ?_;refine AllReadyH.cons rfl (λK hK=> ?_) AllReadyH.nil;go_simp;refine(HJN.out _ w7 B7).mono ?_;rintro e w8 ⟨⟨Y,js,jc,ks,kc,HYE,rfl,JP,JC1,JC2⟩,hb8⟩;have A8:=A7.call hb8;have B8:=B7.trans (hb8.mono (B7.size));have J8:PicOn (λb=>b≠g/\b≠yb) w8 Y js ks:=JP.mono λb hb _=>by
   rcases hb with h|h
   ·exact⟨h.1,aa⟩
   ·exact⟨by have:=B7.size;omega,by have:=A7.2.1;omega⟩
  clear JP;refine hK.out _ _ (HKZ.out _ B8) (λhHeld8=> ?_);clear hK K hb8 A7 B7;refine sm ?_;refine wpAnyH_ready (rs:=[18]) ag ah ?_;refine AllReadyH.cons rfl (λK hK=> ?_) AllReadyH.nil;have r0:=A8.1 0 _ rfl;have r1:=A8.1 1 _ rfl;have r2:=A8.1 2 _ rfl;have f0:=A8.2.2 0;have f1:=A8.2.2 1;have f2:=A8.2.2 2;go_simp;have A9:Cells (((w8.setCell ⟨yb,0,none⟩ (.bool Y.none)).setCell ⟨yb,1,none⟩ (.slice js Y.vq.length jc)).setCell ⟨yb,2,none⟩ (.slice ks Y.fq.length kc)) yb [.bool Y.none,.slice js Y.vq.length jc,.slice ks Y.fq.length kc]:=((A8.put 0 ah _).put 1 ah _).put 2 ah _;have B9:bl wr (((w8.setCell ⟨yb,0,none⟩ (.bool Y.none)).setCell ⟨yb,1,none⟩ (.slice js Y.vq.length jc)).setCell ⟨yb,2,none⟩ (.slice ks Y.fq.length kc)):=((B8.setCell zyb _).setCell zyb _).setCell zyb _;have hch:∀q,q≠yb->(((w8.setCell ⟨yb,0,none⟩ (.bool Y.none)).setCell ⟨yb,1,none⟩ (.slice js Y.vq.length jc)).setCell ⟨yb,2,none⟩ (.slice ks Y.fq.length kc)).heap[q]? =w8.heap[q]? :=λq hq=>uX;have hcz:w8.heap.size<=(((w8.setCell ⟨yb,0,none⟩ (.bool Y.none)).setCell ⟨yb,1,none⟩ (.slice js Y.vq.length jc)).setCell ⟨yb,2,none⟩ (.slice ks Y.fq.length kc)).heap.size:=bx;have J9:PicOn (λb=>b≠g) (((w8.setCell ⟨yb,0,none⟩ (.bool Y.none)).setCell ⟨yb,1,none⟩ (.slice js Y.vq.length jc)).setCell ⟨yb,2,none⟩ (.slice ks Y.fq.length kc)) Y js ks:=(J8.same (λb hb _=>hch b hb.2) hcz).mono λb hb _=>hb.1.1;refine hK.out _ _ (HKZ.out _ B9) (λhHeld9=> ?_);clear hK K r0 r1 r2 f0 f1 f2 A8 B8 J8 hch hcz;refine sm ?_;generalize (((w8.setCell ⟨yb,0,none⟩ (.bool Y.none)).setCell ⟨yb,1,none⟩ (.slice js Y.vq.length jc)).setCell ⟨yb,2,none⟩ (.slice ks Y.fq.length kc))=w9 at *;refine wpAnyH_done ag ?_ _;first|refine hK1 _ _ (Met.intro (hJ1 _ _ ?_))|refine Met.intro (hJ1 _ _ ?_)|refine hJ1 _ _ ?_
  (repeat apply Exists.intro)
  refine⟨?_,rfl⟩;exact⟨yb,js,jc,ks,kc,rfl,CV⟩):p:=h
theorem Fg (hF:As)(hS:CZ)(hJ:Cv)(V F:Int)(s:oA)(c:lI)(cap:Nat)(w:World)(hc:CodeAt w s c)(h0:aw V F c=0):
  Calls pG 31 #[pv V F s c cap] w λe w'=>Af V F c e w'/\bl w w':=by
 obtain⟨⟨hV1,hV8⟩,⟨hF0,hF3⟩,h60⟩:=bI h0;obtain⟨ti,hi,hz0,hz1,hz2⟩:=info_parts Tryz.info_pic;have P0:=PrAt.new w V F s c cap;have B0:Below w.heap.size w (w.alloc (Cc #[I .i64 V,I .i64 F,U s c.length cap] 24)):=ai;have z0:w.heap.size < (w.alloc (Cc #[I .i64 V,I .i64 F,U s c.length cap] 24)).heap.size:=ah;have HC:=ae hc;have HZ:=ae h0;have HF:=ae (λwx=>hF V F s c cap wx h0);have HSD:=ae hS;have HJD:=ae hJ;clear hc h0 hF hS hJ;go_enter Tryz.func31,Tryz.ntmps31;go_upto_region 1 with fail
 generalize w.alloc (Cc #[I .i64 V,I .i64 F,U s c.length cap] 24)=w0 at *;obtain⟨⟨p0,p1,p2⟩,pz⟩:=id P0;go_wp2_with fail;refine(HF.out w0).mono ?_;rintro e w1 ⟨⟨vs,vc,fs,fc,rfl,hx,hq1,hq2⟩,hb1⟩;have P1:=P0.call hb1;have B1:=B0.trans (hb1.mono B0.size);have z1:w.heap.size < w1.heap.size:=lL z0 hb1.size;have HD:=ae (λ(g cp:Nat) (W:World) (h:BegAt w1 (bE V F c) vs vc fs fc c.length g cp W)=>h.doc hx hq1 hq2 P1 B1 z1);have HPG:=ae (λ(k g cp:Nat) (W:World) (h:BegAt w1 (bE V F c) vs vc fs fc k g cp W)=>(P1.low h.lo z1:PrAt W w.heap.size V F s c cap));obtain⟨x,ex⟩:∃x,x=(bE V F c):=⟨_,rfl⟩;rw[<-ex] at HD HPG |-;clear P0 B0 z0 hb1 HF p0 p1 p2 pz hx hq1 hq2 P1 B1 z1 ex;have N0:=BegAt.new (w1:=w1) (x:=x) (vs:=vs) (vc:=vc) (fs:=fs) (fc:=fc);go_upto_region 2 with fail
 generalize w1.alloc (Cc #[Bb x.none,U vs x.vq.length vc,U fs x.fq.length fc] 28)=w2 at *;obtain⟨g1,eg1⟩:∃g,g=w1.heap.size:=⟨_,rfl⟩;rw[<-eg1] at N0 |-;clear eg1;have zw1:w1.heap.size=w1.heap.size:=rfl;go_wp2;go_loopw [4,5] (λl i wr=>∃k g cp:Nat,k<=c.length/\i=I .i64 k/\l=U (sO ⟨g,0,nO⟩) (k+1) cp/\Hid (BegAt w1 x vs vc fs fc k g cp wr)) (λ_ i _=>c.length - (intOf i).toNat)
 case atStart=>exact⟨0,g1,1,j2 _,rfl,rfl,N0⟩
 case round=>
  clear N0;obtain⟨k,g,cp,hk1,rfl,rfl,HN⟩:=hrel;obtain⟨⟨p0,p1,p2⟩,pz⟩:=id (HPG.out k g cp wr HN.out);by_cases hlt:k < c.length
  ·have n0:(0:Int)<=(k:Int):=by omega
   have n1:(k:Int) < (c.length:Int):=aa;have S4:=HN.out.pr.kept (j3 wr (Cc #[Bb true,U nO 0 0,U nO 0 0] 28) nO) (.inr ge);have zw:=HN.out.lo.size;go_wp2_with (at_builtin;refine aZ _ rfl _ _ 47 rfl w1.heap.size 28 ti (Ag #[Bb false,U nO 0 0,U nO 0 0]) 3 56 Tryz.underlying47 hi hz0 hz1 hz2 rfl aj _ _ _ rfl S4 (sO ⟨wr.heap.size,0,nO⟩) 1 1 npC rfl rfl (λh=>aX) ?qa2 ?qa3 ?qa4 ?qa5 ?qa6 ?_)
   case qa2=>exact gT wr 28 npC
   case qa3=>intro u hu;simp[npC] at hu;rcases hu with rfl|rfl<;>rfl
   case qa4=>unfold maxLen;omega
   case qa5=>omega
   case qa6=>rw[zA];omega
   intro v' w4 hown hgrow hat;obtain⟨g',cp',rfl,N4⟩:=HN.out.grow hown hgrow;have HN4:=ae N4;clear hown hgrow hat S4 HN zw N4 p0 p1 p2 pz;go_wp2;go_roundw
   case rel=>exact⟨k+1,g',cp',aa,aJ,rfl,HN4.out⟩
   case measure=>simp[intOf];omega
  have n1:¬(k:Int) < (c.length:Int):=aa;have ek:k=c.length:=aa;subst ek;obtain⟨D0,hg⟩:=HD.out g cp wr HN.out;clear HN HD HPG hk1 hlt;go_wp2;clear p0 p1 p2 pz hi hz0 hz1 hz2;obtain⟨M,hM⟩:∃M:Nat,M=200000000000003:=⟨_,rfl⟩;have HM:=ae hM;clear hM;go_loopw [6,7] (λn ch wr=>∃(m:Nat) (b:Bool),n=I .i64 (m:Int)/\ch=Bb b/\Hid (DocAt w V F s c cap g (aI V F c m) wr)/\Hid (RndIs V F c m b)) (λn _ _=>M - (intOf n).toNat)
  case atStart=>exact⟨0,true,rfl,rfl,D0,.inl ⟨rfl,λk h=>absurd h aa⟩⟩
  case round=>
   clear D0;obtain⟨m,b,rfl,rfl,HW,HR⟩:=hrel;rcases HR.out with⟨rfl,hall⟩|⟨rfl,m',rfl,hS⟩;rotate_left
   ·have HA:Hid (Af V F c (Rt (Tu #[U (sO ⟨g,0,nO⟩) (c.length+1) cp,I .i64 ((m'+1:Nat):Int)])) wr):=by
     refine⟨m',g,cp,hS,Ci HZ.out hS,rfl,?_⟩;rw[<-(ru HZ.out hS).1];exact HW.out.pr.xs
    have HL:=ae HW.out.lo;clear HW HR hS;go_wp2;refine bodyPost_ret (v:=Tu #[U (sO ⟨g,0,nO⟩) (c.length+1) cp,I .i64 ((m'+1:Nat):Int)]) (by simp[results,Tryz.results31,go_sem]) rfl ?_;exact⟨HA.out,HL.out⟩
   have hfew:=kn HZ.out hall;have hmb:(m:Int)<=200000000000000:=aa;have HMB:Hid (m+2 < M):=by show _ < _;rw[HM.out];exact Nat.lt_of_le_of_lt (Nat.add_le_add_right (show m<=200000000000000 by omega) 2) (by decide)
   have HALL:=ae hall;have HOK:=ae (λ(k:Nat) (hk:k<=c.length)=>(ox (n:=((m+1:Nat):Int)) HZ.out hk (s:=(aI V F c m,false)) (dD HZ.out m)).1);clear hfew hall HR;go_wp2;go_loopw [7,8] (λch i wr=>∃(k:Nat) (L:List Pic) (b:Bool),k<=c.length/\i=I .i64 k/\ch=Bb b/\Hid ((q8 k).foldl (dk c ((m+1:Nat):Int)) (aI V F c m,false)=(L,b))/\Hid (DocAt w V F s c cap g L wr)) (λ_ i _=>c.length - (intOf i).toNat)
   case atStart=>exact⟨0,_,_,j2 _,rfl,rfl,rfl,HW.out⟩
   case round=>
    clear HW;obtain⟨k,L,b,hk1,rfl,rfl,HK,HW⟩:=hrel;have hpg:=HW.out.pg;obtain⟨⟨p0,p1,p2⟩,pz⟩:=id hpg;by_cases hlt:k < c.length;rotate_left
    ·have n1:¬(k:Int) < (c.length:Int):=by omega
     have ek:k=c.length:=aa;subst ek;have HRD:Hid (dh c ((m+1:Nat):Int) (aI V F c m)=(L,b)):=HK.out;have HRI:Hid (RndIs V F c (m+1) b):=RndIs.next HALL.out HRD.out;have HWN:Hid (DocAt w V F s c cap g (aI V F c (m+1)) wr):=by
      show DocAt _ _ _ _ _ _ _ _ _;rw[show aI V F c (m+1)=L from congrArg Prod.fst HRD.out];exact HW.out
     clear hpg HW HK HRD;go_wp2;go_roundw
     case rel=>exact⟨m+1,b,aJ,rfl,HWN.out,HRI.out⟩
     case measure=>have:=HMB.out;simp[intOf];omega
    have hxs:XsOk V F c L:=by have h:=HOK.out k hk1;rw[HK.out] at h;exact h
    have hkL:k < L.length:=by have:=hxs.len;omega
    obtain⟨vs3,vc3,fs3,fc3,⟨q0,q1,q2⟩,hPx,hvx,hfx,zg,-⟩:=HW.out.pr.cell hkL;obtain⟨x3,ex⟩:∃x,x=L[k]:=⟨_,rfl⟩;have hckx:aK V F c x3=0:=by rw[ex];exact hxs.ck _ (gM hkL)
    have exa:bm L (k:Int)=x3:=by rw[ex];exact fQ hkL
    rw[<-ex] at q0 q1 q2 hPx hvx hfx;have hEd:=iq HZ.out hckx hlt;have hEl:=rj (bK c (k:Int)) (k:Int) x3;obtain⟨⟨E,f1,f2⟩,er⟩:∃r,r=aA (bK c (k:Int)) (k:Int) x3:=⟨_,rfl⟩;have HTN:Hid (∀t:List Pic×Bool,E.foldl (bT ((m+1:Nat):Int) (k:Int)) (L,b)=t->(q8 (k+1)).foldl (dk c ((m+1:Nat):Int)) (aI V F c m,false)=t):=λt h=>by
     rw[z6,q7,HK.out];show (cN c k (bm L k)).foldl _ _=t;rw[exa];unfold cN;rw[<-er];exact h
    have HE:Hid ((∀e∈E,gP V F c e)/\E.length<=10):=by
     unfold cN at hEd;rw[<-er] at hEd hEl;exact⟨hEd,lT hEl aj⟩
    have HST:Hid (∀wx,bl wr wx->Calls pG 59 #[pv V F s c cap,I .i64 (k:Int),xv x3 vs3 vc3 fs3 fc3] wx λe w'=>(∃es ec,e=Rt (Tu #[U es E.length ec,Bb f1,Bb f2])/\EdsOn (λb=>b≠g) w' es E)/\bl wx w'):=λwx hb=>by
     have h:=HSD.out (λb=>b≠g) V F s c cap (k:Int) x3 vs3 vc3 fs3 fc3 wx (HC.out.below (HW.out.lo.trans (hb.mono HW.out.lo.size)) (lR _)) (hPx.call hb) HZ.out hckx aa aa hvx hfx;rw[<-er] at h;refine h.mono ?_;rintro e w' ⟨⟨es,ec,rfl,hE⟩,hb'⟩;exact⟨⟨es,ec,rfl,hE.mono λb hb1 _=>by have:=hb.size;omega⟩,hb'⟩
    have HKZ:Hid (∀wx,bl wr wx->(wx.cell? ⟨w.heap.size,0,nO⟩=sO (I .i64 V)/\wx.cell? ⟨w.heap.size,1,nO⟩=sO (I .i64 F)/\wx.cell? ⟨w.heap.size,2,nO⟩=sO (U s c.length cap))/\(wx.cell? ⟨g,k * 3,nO⟩=sO (Bb x3.none)/\wx.cell? ⟨g,k * 3+1,nO⟩=sO (U vs3 x3.vq.length vc3)/\wx.cell? ⟨g,k * 3+2,nO⟩=sO (U fs3 x3.fq.length fc3))):=λwx hb=>by
     refine⟨(hpg.call hb).1,?_,?_,?_⟩
     ·rw[hb.cell (by simp only;exact zg)];exact q0
     ·rw[hb.cell (by simp only;exact zg)];exact q1
     ·rw[hb.cell (by simp only;exact zg)];exact q2
    have HXS:=ae hxs;have B34:bl wr wr.drew:=(bR _ _).drew;have n0:(0:Int)<=(k:Int):=aa;have n1:(k:Int) < (c.length:Int):=aa;have n2:(k:Int) < ((c.length+1:Nat):Int):=aa;have n3:(k:Int) < (c.length:Int)+1:=aa;clear er exa hckx hPx hvx hfx q0 q1 q2 hEd hEl hxs ex;go_upto_region 14 with fail
    refine aD (S:=(λwx=>(wx.cell? ⟨w.heap.size,0,nO⟩=sO (I .i64 V)/\wx.cell? ⟨w.heap.size,1,nO⟩=sO (I .i64 F)/\wx.cell? ⟨w.heap.size,2,nO⟩=sO (U s c.length cap))/\(wx.cell? ⟨g,k * 3,nO⟩=sO (Bb x3.none)/\wx.cell? ⟨g,k * 3+1,nO⟩=sO (U vs3 x3.vq.length vc3)/\wx.cell? ⟨g,k * 3+2,nO⟩=sO (U fs3 x3.fq.length fc3)))) [] ag (HKZ.out _ B34) (λhHeld=> ?_);generalize wr.drew=w4 at *;refine vZ 0 ?_ ?_;refine vZ 1 ?_ ?_;refine vZ 2 ?_ ?_;refine vZ 3 ?_ ?_;refine vZ 4 ?_ ?_;refine vZ 5 ?_ ?_;refine aB (i:=6) rfl ag (λK hK=> ?_);go_simp;go_at_call 59;refine(HST.out w4 B34).mono ?_;rintro e w5 ⟨⟨es,ec,rfl,hE5⟩,hb5⟩;have HE5:=ae hE5;clear hE5;go_wp2_with fail;refine hK.out _ _ (HKZ.out _ (B34.trans (hb5.mono B34.size))) (λhHeld=> ?_);clear hK K;refine sm ?_;refine vZ 7 ?_ ?_;refine vZ 8 ?_ ?_;refine vZ 9 ?_ ?_;refine vZ 10 ?_ ?_;refine vZ 11 ?_ ?_;refine vZ 12 ?_ ?_;refine vZ 13 ?_ ?_;refine aC ag ?_ _;have B5:=B34.trans (hb5.mono B34.size);have HW5:=ae (HW.out.call B5);clear hHeld HKZ HST B34 B5 hb5 HW hpg p0 p1 p2 pz;go_wp2;generalize w5=wA at *;clear w5;go_loopw [7,12] (λch j wr=>∃(q:Nat) (L':List Pic) (b':Bool),q<=E.length/\j=I .i64 q/\ch=Bb b'/\Hid ((E.take q).foldl (bT ((m+1:Nat):Int) (k:Int)) (L,b)=(L',b'))/\Hid (DocAt w V F s c cap g L' wr)/\Hid (EdsOn (λb=>b≠g) wr es E)) (λ_ j _=>E.length - (intOf j).toNat)
    case atStart=>exact⟨0,L,b,j2 _,rfl,rfl,rfl,HW5.out,HE5.out⟩
    case round=>
     clear HW5 HE5;obtain⟨q,L',b',hq1,rfl,rfl,HQ,HD,HS⟩:=hrel;have hx':XsOk V F c L':=BE HZ.out HE.out.1 HXS.out q HQ.out;have hEl:=HE.out.2;by_cases hlq:q < E.length;rotate_left
     ·have n3:¬(q:Int) < (E.length:Int):=by omega
      have HKN:=ae (HTN.out (L',b') (by have h:=HQ.out;rwa [List.take_of_length_le (by omega)] at h))
      clear HQ HS hx';go_wp2;go_roundw
      case rel=>exact⟨k+1,L',b',aa,aJ,rfl,HKN.out,HD.out⟩
      case measure=>simp[intOf];omega
     have m0:(0:Int)<=(q:Int):=aa;have m1:(q:Int) < (E.length:Int):=aa;obtain⟨b2,o2,rfl,hS2,hz2,us,uc,gs,gc,⟨d0,d1,d2,d3⟩,hPe,hve,hfe⟩:=HS.out q hlq;have heo:=HE.out.1 _ (gM hlq);have HNX:=ae (Bh hlq HQ.out);obtain⟨⟨tq,y⟩,ee⟩:∃e,e=E[q]:=⟨_,rfl⟩;rw[<-ee] at d0 d1 d2 d3 hPe hve hfe heo HNX;clear ee;obtain⟨hcy,t0,t1⟩:=heo;simp only at d0 d1 d2 d3 hPe hve hfe hcy t0 t1;obtain⟨t,rfl⟩:=Int.eq_ofNat_of_zero_le t0;have htL:t < L'.length:=by have:=hx'.len;omega
     obtain⟨vs4,vc4,fs4,fc4,⟨r0,r1,r2⟩,hPz,hvz,hfz,zg4,-⟩:=HD.out.pr.cell htL;obtain⟨z,ez⟩:∃z,z=L'[t]:=⟨_,rfl⟩;have hcz:aK V F c z=0:=by rw[ez];exact hx'.ck _ (gM htL)
     have HZA:Hid (bm L' (t:Int)=z):=by show _=_;rw[ez];exact fQ htL
     rw[<-ez] at r0 r1 r2 hPz hvz hfz;clear ez;have HJN:Hid (∀(wide:Bool) wx,bl wr wx->Calls pG 70 #[xv z vs4 vc4 fs4 fc4,xv y us uc gs gc,Bb wide] wx λe w'=>(∃Y js jc ks kc,Hid (Y=aG (am wide) z y)/\e=Rt (Ag #[Bb Y.none,U js Y.vq.length jc,U ks Y.fq.length kc])/\PicOn (λb=>(b≠g/\b < wr.heap.size)\/wx.heap.size<=b) w' Y js ks/\(Y.vq.length<=jc/\jc<=maxLen)/\(Y.fq.length<=kc/\kc<=maxLen))/\bl wx w'):=λwide wx hb=>by
      refine(HJD.out (λb=>b≠g/\b < wr.heap.size) V F c wide z y vs4 vc4 fs4 fc4 us uc gs gc wx ((hPz.mono λb h hl=>⟨h,hl⟩).call hb) ((hPe.mono λb h hl=>⟨h,hl⟩).call hb) hvz hfz hve hfe HZ.out hcz hcy).mono ?_;rintro e w' ⟨⟨js,jc,ks,kc,rfl,h1,h2⟩,hb'⟩;exact⟨⟨_,js,jc,ks,kc,rfl,rfl,h1,h2⟩,hb'⟩
     have HKZ:Hid (∀wx,bl wr wx->(wx.cell? ⟨g,t * 3,nO⟩=sO (Bb z.none)/\wx.cell? ⟨g,t * 3+1,nO⟩=sO (U vs4 z.vq.length vc4)/\wx.cell? ⟨g,t * 3+2,nO⟩=sO (U fs4 z.fq.length fc4))/\(wx.cell? ⟨b2,o2+q * 4+1,nO⟩=sO (Bb y.none)/\wx.cell? ⟨b2,o2+q * 4+2,nO⟩=sO (U us y.vq.length uc)/\wx.cell? ⟨b2,o2+q * 4+3,nO⟩=sO (U gs y.fq.length gc))):=λwx hb=>by
      have c1:=λj=>hb.cell (p:=⟨g,j,nO⟩) (by simp only;exact zg4);have c2:=λj=>hb.cell (p:=⟨b2,j,nO⟩) (by simp only;exact hz2);exact⟨⟨(c1 _).trans r0,(c1 _).trans r1,(c1 _).trans r2⟩,(c2 _).trans d1,(c2 _).trans d2,(c2 _).trans d3⟩
     have HK4:=ae (λwx hb=>(HKZ.out wx hb).1);have HPZ:=ae (λwx (hb:bl wr wx)=>(hPz.call hb).at);have HCZ:=ae (And.intro hcz hcy);have m2:(0:Int)<=(t:Int):=aa;have m3:(t:Int) < ((c.length+1:Nat):Int):=aa;have m4:(t:Int) < (c.length:Int)+1:=aa;clear hPe hve hfe hcy hcz hPz hvz hfz d1 d2 d3 hx' t0 t1 r0 r1 r2;go_upto_region 19 with fail
     clear d0;go_cut [14] (λt14 wc=>∃(yb:Nat) (js:oA) (jc:Nat) (ks:oA) (kc:Nat),t14=Pp (sO ⟨yb,0,nO⟩)/\Hid (JnAt wr g yb (aG (am (cY ((m+1:Nat):Int) (k:Int) (t:Int))) z y) js jc ks kc wc))
     case first=>
      rename_i J1 K1 hJ1 hK1;have B6:bl wr wr.drew:=(bR _ _).drew;by_cases hm4:(4:Int)<=(m:Int)+1
      ·have HWD:Hid (cY ((m+1:Nat):Int) (k:Int) (t:Int)=decide ((t:Int)<=(k:Int))):=by show _=_;unfold cY;rw[decide_eq_true (by omega:(4:Int)<=((m+1:Nat):Int)),Bool.true_and]
       refine wp_region_held_drew (S:=(λwx=>(wx.cell? ⟨g,t * 3,nO⟩=sO (Bb z.none)/\wx.cell? ⟨g,t * 3+1,nO⟩=sO (U vs4 z.vq.length vc4)/\wx.cell? ⟨g,t * 3+2,nO⟩=sO (U fs4 z.fq.length fc4))/\(wx.cell? ⟨b2,o2+q * 4+1,nO⟩=sO (Bb y.none)/\wx.cell? ⟨b2,o2+q * 4+2,nO⟩=sO (U us y.vq.length uc)/\wx.cell? ⟨b2,o2+q * 4+3,nO⟩=sO (U gs y.fq.length gc)))) ag (HKZ.out _ B6) (λhHeld=> ?_);generalize wr.drew=w6 at *;refine vH 0 ?_ ?_;refine vH 1 ?_ ?_;refine vH 2 ?_ ?_;refine vH 3 ?_ ?_;refine vH 4 ?_ ?_;refine vH 5 ?_ ?_;refine vH 6 ?_ ?_;refine vH 7 ?_ ?_;refine vH 8 ?_ ?_;refine vH 9 ?_ ?_;refine vH 10 ?_ ?_;refine vH 11 ?_ ?_;refine vH 12 ?_ ?_;refine vH 13 ?_ ?_;refine vH 14 ?_ ?_;exact s8
      ·have HWD:Hid (cY ((m+1:Nat):Int) (k:Int) (t:Int)=false):=by show _=_;unfold cY;rw[decide_eq_false (by omega:¬(4:Int)<=((m+1:Nat):Int)),Bool.false_and]
       refine wp_region_held_drew (S:=(λwx=>(wx.cell? ⟨g,t * 3,nO⟩=sO (Bb z.none)/\wx.cell? ⟨g,t * 3+1,nO⟩=sO (U vs4 z.vq.length vc4)/\wx.cell? ⟨g,t * 3+2,nO⟩=sO (U fs4 z.fq.length fc4))/\(wx.cell? ⟨b2,o2+q * 4+1,nO⟩=sO (Bb y.none)/\wx.cell? ⟨b2,o2+q * 4+2,nO⟩=sO (U us y.vq.length uc)/\wx.cell? ⟨b2,o2+q * 4+3,nO⟩=sO (U gs y.fq.length gc)))) ag (HKZ.out _ B6) (λhHeld=> ?_);generalize wr.drew=w6 at *;refine vH 0 ?_ ?_;refine vH 1 ?_ ?_;refine vH 2 ?_ ?_;refine vH 3 ?_ ?_;refine vH 4 ?_ ?_;refine vH 5 ?_ ?_;refine vH 6 ?_ ?_;refine vH 7 ?_ ?_;refine vH 8 ?_ ?_;refine vH 9 ?_ ?_;refine vH 10 ?_ ?_;refine vH 11 ?_ ?_;refine uH 12 ?_;refine sm ?_;refine uH 13 ?_;refine sm ?_;refine uH 14 ?_;refine sm ?_;exact s8
     obtain⟨yb,js,jc,ks,kc,rfl,HY⟩:=hcut;have HYN:Hid (aG (am (cY ((m+1:Nat):Int) (k:Int) (t:Int))) z y=z->(E.take (q+1)).foldl (bT ((m+1:Nat):Int) (k:Int)) (L,b)=(L',b')):=λh=>HNX.out.trans (Fq HZ.out HZA.out HCZ.out.1 HCZ.out.2 h);have HYP:Hid (¬aG (am (cY ((m+1:Nat):Int) (k:Int) (t:Int))) z y=z->(E.take (q+1)).foldl (bT ((m+1:Nat):Int) (k:Int)) (L,b)=(L'.set t (aG (am (cY ((m+1:Nat):Int) (k:Int) (t:Int))) z y),true)):=λh=>HNX.out.trans (FP HZ.out HZA.out HCZ.out.1 HCZ.out.2 h);obtain⟨Y,eY⟩:∃Y,Y=aG (am (cY ((m+1:Nat):Int) (k:Int) (t:Int))) z y:=⟨_,rfl⟩;rw[<-eY] at HY HYN HYP;clear eY HNX HJN HKZ HZA HCZ HQ;have HDC:=ae (HD.out.call HY.out.lo);have HSC:=ae (HS.out.call HY.out.lo);have HSM:Hid (∀wx,bl wc wx->Calls pG 34 #[xv Y js jc ks kc,xv z vs4 vc4 fs4 fc4] wx λe w'=>SameAns e (Y=z)/\bl wx w'):=λwx hb=>sr Y z js jc ks kc vs4 vc4 fs4 fc4 wx ⟨lT HY.out.c1.1 HY.out.c1.2,lT HY.out.c2.1 HY.out.c2.2⟩ (HY.out.pic.call hb).at (HPZ.out wx (HY.out.lo.trans (hb.mono HY.out.lo.size)));have HKZ:Hid (∀wx,bl wc wx->(wx.cell? ⟨yb,0,nO⟩=sO (Bb Y.none)/\wx.cell? ⟨yb,1,nO⟩=sO (U js Y.vq.length jc)/\wx.cell? ⟨yb,2,nO⟩=sO (U ks Y.fq.length kc))/\(wx.cell? ⟨g,t * 3,nO⟩=sO (Bb z.none)/\wx.cell? ⟨g,t * 3+1,nO⟩=sO (U vs4 z.vq.length vc4)/\wx.cell? ⟨g,t * 3+2,nO⟩=sO (U fs4 z.fq.length fc4))):=λwx hb=>by
      have a:=HY.out.cell.call hb;exact⟨⟨a.1 0 _ rfl,a.1 1 _ rfl,a.1 2 _ rfl⟩,HK4.out wx (HY.out.lo.trans (hb.mono HY.out.lo.size))⟩
     have B7:bl wc wc.drew:=(bR _ _).drew;clear HPZ;go_upto_region 20 with fail
     refine aD (S:=(λwx=>(wx.cell? ⟨yb,0,nO⟩=sO (Bb Y.none)/\wx.cell? ⟨yb,1,nO⟩=sO (U js Y.vq.length jc)/\wx.cell? ⟨yb,2,nO⟩=sO (U ks Y.fq.length kc))/\(wx.cell? ⟨g,t * 3,nO⟩=sO (Bb z.none)/\wx.cell? ⟨g,t * 3+1,nO⟩=sO (U vs4 z.vq.length vc4)/\wx.cell? ⟨g,t * 3+2,nO⟩=sO (U fs4 z.fq.length fc4)))) [] ag (HKZ.out _ B7) (λhHeld=> ?_);generalize wc.drew=w7 at *;refine vZ 0 ?_ ?_;refine vZ 1 ?_ ?_;refine vZ 2 ?_ ?_;refine vZ 3 ?_ ?_;refine vZ 4 ?_ ?_;refine aB (i:=5) rfl ag (λK hK=> ?_);go_simp;go_at_call 34;refine(HSM.out w7 B7).mono ?_;rintro e w8 ⟨⟨bb,rfl,HBB0⟩,hb8⟩;have HBB:=ae HBB0;clear HBB0;go_wp2_with fail;refine hK.out _ _ (HKZ.out _ (B7.trans (hb8.mono B7.size))) (λhHeld=> ?_);clear hK K;refine sm ?_;refine vZ 6 ?_ ?_;refine aC ag ?_ _;have B9:=B7.trans (hb8.mono B7.size);have HD9:=ae (HDC.out.call B9);have HS9:=ae (HSC.out.call B9);have HY9:Hid (Cells w8 yb [Bb Y.none,U js Y.vq.length jc,U ks Y.fq.length kc]/\PicOn (λb=>b≠g) w8 Y js ks):=⟨HY.out.cell.call B9,HY.out.pic.call B9⟩;have HYC:=ae (And.intro HY.out.c1 HY.out.c2);have HXC:=ae (HKZ.out w8 B9).2;clear HDC HSC HSM HKZ hHeld B7 hb8 HY HD HS B9 HK4;rcases Bool.eq_false_or_eq_true bb with e1|e1
     ·have HQN:=ae (HYN.out (HBB.out.1 e1))
      subst e1;clear HBB HYN HYP HY9 HXC HYC;go_wp2;go_roundw
      case rel=>exact⟨q+1,L',b',aa,aJ,rfl,HQN.out,HD9.out,HS9.out⟩
      case measure=>simp[intOf];omega
     ·have HQN:=ae (HYP.out (λh=>by rw[HBB.out.2 h] at e1;cases e1))
      subst e1;clear HBB HYN HYP;have a0:=HY9.out.1.1 0 _ rfl;have a1:=HY9.out.1.1 1 _ rfl;have a2:=HY9.out.1.1 2 _ rfl;obtain⟨r0,r1,r2⟩:=HXC.out;obtain⟨_,_,_,_,_,_,_,_,_,fz⟩:=HD9.out.pr.cell htL;have f0:=fz (t * 3);have f1':=fz (t * 3+1);have f2':=fz (t * 3+2);clear fz HXC;go_upto_region 22 with fail
      obtain⟨wq,ewq⟩:∃q',q'=bw w8 g (t * 3) [Bb Y.none,U js Y.vq.length jc,U ks Y.fq.length kc]:=⟨_,rfl⟩;have PT:=ae (HD9.out.pr.put (λb hb=>hb) htL HY9.out.2 HYC.out.1 HYC.out.2 ewq);simp only[bw] at ewq;rw[<-ewq];clear ewq a0 a1 a2 r0 r1 r2 f0 f1' f2';have HDN:Hid (DocAt w V F s c cap g (L'.set t Y) wq):=by
       obtain⟨T1,T2,T3,T4⟩:=PT.out;exact⟨T1,HD9.out.pg.low (T4 (lR g) (bR g w8)) hg,T4 (Nat.le_of_lt hg) HD9.out.lo⟩
      have HSN:=ae (HS9.out.same (λb hb _=>PT.out.2.1 b hb) PT.out.2.2.1);clear PT HD9 HS9 HY9 HYC;go_wp2;go_roundw
      case rel=>exact⟨q+1,L'.set t Y,true,aa,aJ,rfl,HQN.out,HDN.out,HSN.out⟩
      case measure=>simp[intOf];omega
theorem BU (v f:Nat)(s:oA)(c:lI)(cap:Nat)(w:World)(hv8:v<=8)(hf3:f<=3)(h60:c.length<=60):
  Calls pG 69 #[pv (v:Int) (f:Int) s c cap] w λe w'=>KT w.heap.size w' e (bE (v:Int) (f:Int) c)/\bl w w':=by
 have efp:bE (v:Int) (f:Int) c=⟨false,j1 v cV,j1 c.length (j1 f noneG)⟩:=by simp[bE]
 rw[efp];clear efp;obtain⟨ti,hi,hz0,hz1,hz2⟩:=info_parts Tryz.info_guess;obtain⟨tk,hk,hx0,hx1,hx2⟩:=info_parts Tryz.info_row;have HN:Hid (∀wx,Calls pG 111 #[] wx λe w'=>e=Rt (Ag #[Bb false,Bb true,I .i64 0,I .i64 0,Bb false,Bb false,U nO 0 0])/\bl wx w'):=λwx=>cZ wx;have hb0:Below w.heap.size w (((w.alloc (Cc #[I .i64 (v:Int),I .i64 (f:Int),U s c.length cap] 24)).alloc (Cc #[Bb false,U nO 0 0,U nO 0 0] 28)).alloc (Cc #[Bb false,U nO 0 0,U nO 0 0] 28)):=ai;have P0:=(PrAt.new w (v:Int) (f:Int) s c cap).call (w':=(((w.alloc (Cc #[I .i64 (v:Int),I .i64 (f:Int),U s c.length cap] 24)).alloc (Cc #[Bb false,U nO 0 0,U nO 0 0] 28)).alloc (Cc #[Bb false,U nO 0 0,U nO 0 0] 28))) ai;have A0:=(X3.new (w.alloc (Cc #[I .i64 (v:Int),I .i64 (f:Int),U s c.length cap] 24)) 28 (Bb false) (U nO 0 0) (U nO 0 0)).call (w':=(((w.alloc (Cc #[I .i64 (v:Int),I .i64 (f:Int),U s c.length cap] 24)).alloc (Cc #[Bb false,U nO 0 0,U nO 0 0] 28)).alloc (Cc #[Bb false,U nO 0 0,U nO 0 0] 28))) ai;have Z0:=X3.new ((w.alloc (Cc #[I .i64 (v:Int),I .i64 (f:Int),U s c.length cap] 24)).alloc (Cc #[Bb false,U nO 0 0,U nO 0 0] 28)) 28 (Bb false) (U nO 0 0) (U nO 0 0);have z0:w.heap.size+1+1+1<=(((w.alloc (Cc #[I .i64 (v:Int),I .i64 (f:Int),U s c.length cap] 24)).alloc (Cc #[Bb false,U nO 0 0,U nO 0 0] 28)).alloc (Cc #[Bb false,U nO 0 0,U nO 0 0] 28)).heap.size:=ah;rw[zA] at A0;rw[zA,zA] at Z0;go_enter Tryz.func69,Tryz.ntmps69;go_upto_region 2 with fail
 generalize (((w.alloc (Cc #[I .i64 (v:Int),I .i64 (f:Int),U s c.length cap] 24)).alloc (Cc #[Bb false,U nO 0 0,U nO 0 0] 28)).alloc (Cc #[Bb false,U nO 0 0,U nO 0 0] 28))=w1 at *;go_wp2;go_loopw [4] (λi wr=>∃(k:Nat) (vs:oA) (vc:Nat) (l:List Gc),k<=v/\i=I .i64 k/\PrAt wr w.heap.size (v:Int) (f:Int) s c cap/\X3 wr (w.heap.size+1) (Bb false) (U nO 0 0) (U nO 0 0)/\X3 wr (w.heap.size+1+1) (Bb false) (U vs l.length vc) (U nO 0 0)/\SRow wr (w.heap.size+1+1+1) (U vs l.length vc) l/\Hid (l.map Gc.g=j1 k cV)/\bl w wr/\w.heap.size+1+1+1<=wr.heap.size) (λi _=>v - (intOf i).toNat)
 case atStart=>exact⟨0,nO,0,[],j2 _,rfl,P0,A0,Z0,SRow.nil _ _,rfl,hb0,z0⟩
 case round=>
  obtain⟨k,vs,vc,l,hk1,rfl,PR,AR,ZR,SR,HL,BR,zr⟩:=hrel;clear P0 A0 Z0 hb0 z0;obtain⟨⟨p0,p1,p2⟩,pz⟩:=id PR;have LL:Hid (l.length=k):=Cz;by_cases hlt:k < v
  ·have n0:(0:Int)<=(k:Int):=by omega
   have n1:(k:Int) < (v:Int):=aa;go_wp2_with fail;refine(HN.out _).mono ?_;rintro e w2 ⟨rfl,hb2⟩;clear p0 p1 p2 pz;have hb3:Below w2.heap.size w2 (w2.alloc (Cc #[Bb true,Bb true,I .i64 0,I .i64 0,Bb false,Bb false,U nO 0 0] 91)):=ai;have G3:GuAt (w2.alloc (Cc #[Bb true,Bb true,I .i64 0,I .i64 0,Bb false,Bb false,U nO 0 0] 91)) w2.heap.size 0 cV nO 0:=GuAt.new w2 cV nO 0;have hbz:=hb2.trans (hb3.mono hb2.size);go_upto_region 7 with fail
   generalize w2.alloc (Cc #[Bb true,Bb true,I .i64 0,I .i64 0,Bb false,Bb false,U nO 0 0] 91)=w3 at *;generalize w2.heap.size=gb at *;have P3:=PR.call hbz;have A3:=AR.call hbz;have Z3:=ZR.call hbz;have S3:=SR.call hbz;have B3:=BR.trans (hbz.mono BR.size);have z3:w.heap.size+1+1+1<=w3.heap.size:=lT zr hbz.size;clear PR AR ZR SR BR zr hbz hb2 hb3;obtain⟨⟨y0,y1,y2⟩,yz,yf⟩:=id Z3;obtain⟨⟨g0,g1,g2,g3,g4,g5,g6⟩,gz⟩:=id G3;simp only[cV,List.length_nil,j0] at g0 g1 g2 g3 g4 g5 g6;have S4:=S3.call (w':=w3.alloc (Cc #[Bb true,Bb true,I .i64 0,I .i64 0,Bb false,Bb false,U nO 0 0] 91)) ai;go_wp2_with (at_builtin;refine aZ _ rfl _ _ 25 rfl (w.heap.size+1+1+1) 91 ti (Ag #[Bb false,Bb false,I .i64 0,I .i64 0,Bb false,Bb false,U nO 0 0]) 7 64 Tryz.underlying25 hi hz0 hz1 hz2 rfl aj _ _ _ rfl S4.1 (sO ⟨w3.heap.size,0,nO⟩) 1 1 (bp ⟨cV,nO,0⟩) rfl rfl (λh=>aX) ?qa2 (dj _) ?qa4 ?qa5 ?qa6 ?_);(try (case qa2=>exact lf w3 ⟨cV,nO,0⟩ #[Bb true,Bb true,I .i64 0,I .i64 0,Bb false,Bb false,U nO 0 0] _ rfl))
   case qa4=>unfold maxLen;have:=LL.out;omega
   case qa5=>have:=LL.out;omega
   (try (case qa6=>first|omega|(rw[zA];omega)|(simp;omega)|simp));intro v' w4 hown hgrow hat;have S5:=S4.grown (x:=⟨cV,nO,0⟩) ⟨.inl rfl,lR _,by unfold maxLen;simp⟩ hown hgrow fa;have hb4:Below (w.heap.size+1+1+1) w3 w4:=((bR _ w3).alloc z3 _).grown hgrow an (λk hk=>(aM S4.1 hk).2);obtain⟨vs',vc',rfl,-,-,-⟩:=S5.in;clear hown hgrow hat S4 S3 y0 y1 y2 yz yf g0 g1 g2 g3 g4 g5 g6 gz G3;have P4:PrAt w4 w.heap.size (v:Int) (f:Int) s c cap:=P3.low hb4 aa;have A4:X3 w4 (w.heap.size+1) (Bb false) (U nO 0 0) (U nO 0 0):=A3.same (hb4.block _ aa) hb4.size;have Z4:X3 w4 (w.heap.size+1+1) (Bb false) (U vs l.length vc) (U nO 0 0):=Z3.same (hb4.block _ aa) hb4.size;have B4:=B3.trans (hb4.mono aa);have z4:w.heap.size+1+1+1<=w4.heap.size:=lT z3 hb4.size;clear P3 A3 Z3 B3 z3 hb4;obtain⟨⟨y0,y1,y2⟩,yz,yf⟩:=id Z4;have yf1:=yf 1;clear yf;go_wp2;go_roundw
   case rel=>exact⟨k+1,vs',vc',l++[⟨cV,nO,0⟩],aa,aJ,P4.far au _,A4.far au _,by rw[q9];exact Z4.put1 _,S5.old (pV au _).1 (pV au _).2 (B:=w.heap.size+1+1+1),vU,B4.setCell au _,pi⟩
   case measure=>simp[intOf];omega
  ·have n1:¬(k:Int) < (v:Int):=by omega
   have ek:k=v:=aa;obtain⟨vs0,vc0,e0,hk0,hk00,GV0⟩:=SR.in;cases e0;have LV:Hid (l.length=v):=by show _=_;rw[LL.out,ek]
   rw[HL.out,ek] at GV0;have GV:GsIn (λb=>w.heap.size+1+1+1<=b/\b < wr.heap.size) wr vs (j1 v cV):=GV0.mono λb h1 h2=>⟨h1,h2⟩;have HVC:Hid (l.length<=vc/\vc<=maxLen):=⟨hk0,hk00⟩;clear GV0 SR LL HL hk0 hk00;have zn:w.heap.size+1+1+1<=wr.heap.size:=zr;generalize hN:wr.heap.size=N at *;have HNN:=ae hN;clear hN;go_wp2;clear p0 p1 p2 pz;go_loopw [6] (λi wx=>∃(k:Nat) (fs:oA) (fc:Nat) (L:List Rw),k<=c.length/\i=I .i64 k/\PrAt wx w.heap.size (v:Int) (f:Int) s c cap/\X3 wx (w.heap.size+1) (Bb false) (U nO 0 0) (U nO 0 0)/\X3 wx (w.heap.size+1+1) (Bb false) (U vs l.length vc) (U fs L.length fc)/\FRow wx N (U fs L.length fc) L/\Hid (L.map Rw.l=j1 k (j1 f noneG))/\GsIn (λb=>w.heap.size+1+1+1<=b/\b < N) wx vs (j1 v cV)/\bl w wx/\N<=wx.heap.size) (λi _=>c.length - (intOf i).toNat)
   case atStart=>exact⟨0,nO,0,[],j2 _,rfl,PR,AR,ZR,FRow.nil _ _,rfl,GV,BR,Go.Proofs.YtmapdpcfanecdabGreatDoor.u9⟩
   case round=>
    clear PR AR ZR GV BR zr HNN;obtain⟨k2,fs,fc,L,hk2,rfl,PR,AR,ZR,FR,HL,GV,BR,zr⟩:=hrel;generalize wr=w6 at *;clear wr;have LL:Hid (L.length=k2):=Cz;obtain⟨⟨p0,p1,p2⟩,pz⟩:=id PR;by_cases hlt2:k2 < c.length
    ·have n2:(k2:Int) < (c.length:Int):=by omega
     go_wp2;clear p0 p1 p2 pz;go_loopw [7,8] (λr j wo=>∃(m:Nat) (rs:oA) (rc:Nat) (lr:List Gc),m<=f/\r=U rs lr.length rc/\j=I .i64 m/\bl w6 wo/\SRow wo w6.heap.size (U rs lr.length rc) lr/\Hid (lr.map Gc.g=j1 m noneG)) (λ_ j _=>f - (intOf j).toNat)
     case atStart=>exact⟨0,nO,0,[],j2 _,rfl,rfl,bR _ _,SRow.nil _ _,rfl⟩
     case round=>
      obtain⟨m,rs,rc,lr,hm,rfl,rfl,hbo,SR,HM⟩:=hrel;have LM:Hid (lr.length=m):=by show _=_;have:=congrArg List.length HM.out;simpa using this
      obtain⟨⟨p0,p1,p2⟩,pz⟩:=id (PR.call hbo);by_cases hltm:m < f
      ·have m1:(m:Int) < (f:Int):=by omega
       go_wp2_with fail;refine(HN.out _).mono ?_;rintro e w7 ⟨rfl,hb7⟩;clear p0 p1 p2 pz;have S7:=(SR.call hb7).call (w':=w7.alloc (Cc #[Bb false,Bb true,I .i64 0,I .i64 0,Bb false,Bb false,U nO 0 0] 91)) ai;have hb67:=hbo.trans (hb7.mono hbo.size);have z67:w6.heap.size<=w7.heap.size:=hb67.size;go_wp2_with (at_builtin;refine aZ _ rfl _ _ 25 rfl w6.heap.size 91 ti (Ag #[Bb false,Bb false,I .i64 0,I .i64 0,Bb false,Bb false,U nO 0 0]) 7 64 Tryz.underlying25 hi hz0 hz1 hz2 rfl aj _ _ _ rfl S7.1 (sO ⟨w7.heap.size,0,nO⟩) 1 1 (bp ⟨noneG,nO,0⟩) rfl rfl (λh=>aX) ?qb2 (dj _) ?qb4 ?qb5 ?qb6 ?_);(try (case qb2=>exact lf w7 ⟨noneG,nO,0⟩ #[Bb false,Bb true,I .i64 0,I .i64 0,Bb false,Bb false,U nO 0 0] _ rfl))
       case qb4=>unfold maxLen;have:=LM.out;omega
       case qb5=>have:=LM.out;omega
       (try (case qb6=>first|omega|(rw[zA];omega)|(simp;omega)|simp));intro v' w8 hown hgrow hat;have S8:=S7.grown (x:=⟨noneG,nO,0⟩) ⟨.inl rfl,lR _,by unfold maxLen;simp⟩ hown hgrow fa;have hb8:bl w6 w8:=(hb67.alloc z67 _).grown hgrow an (λk hk=>(aM S7.1 hk).2);obtain⟨rs',rc',rfl,-,-,-⟩:=S8.in;clear hown hgrow hat S7 SR hb7 hbo hb67;go_wp2;go_roundw
       case rel=>exact⟨m+1,rs',rc',lr++[⟨noneG,nO,0⟩],aa,lM,aJ,hb8,S8,by show _=_;rw[List.map_append,HM.out,q5];rfl⟩
       case measure=>simp[intOf];omega
      ·have m1:¬(m:Int) < (f:Int):=by omega
       have em:m=f:=aa;obtain⟨rs0,rc0,e0,hk0,hk00,GR⟩:=SR.in;cases e0;rw[HM.out,em] at GR;have HLF:Hid (lr.length=(j1 f noneG).length):=by show _=_;rw[LM.out,em,j7]
       have A9:=AR.call hbo;have Z9:=ZR.call hbo;have F9:=FR.call hbo;have P9:=PR.call hbo;have V9:=GV.call hbo;have B9:=BR.trans (hbo.mono BR.size);have z9:N<=wr.heap.size:=lT zr hbo.size;have RX:n9 (λb=>N<=b/\(Value.slice fs L.length fc).ownBlock≠sO b) wr ⟨rs,rc,j1 f noneG⟩:=⟨GR.mono λb h1 _=>⟨lT zr h1,λe=>by have:=(aM FR.1 e).1;omega⟩,by rw[HLF.out] at hk0;exact hk0,hk00⟩
       clear AR ZR FR PR GV BR SR GR hbo zr hk0 hk00 em LM HM p0 p1 p2 pz;generalize wr=w9 at *;clear wr;obtain⟨⟨y0,y1,y2⟩,yz,yf⟩:=id Z9;obtain⟨⟨p0,p1,p2⟩,pz⟩:=id P9;have F10:=F9.call (w':=w9.alloc (Cc #[U rs lr.length rc] 25)) ai;have R10:n9 (λb=>N<=b/\(Value.slice fs L.length fc).ownBlock≠sO b) (w9.alloc (Cc #[U rs lr.length rc] 25)) ⟨rs,rc,j1 f noneG⟩:=⟨RX.1.call ai,RX.2⟩;go_wp2_with (at_builtin;refine aZ _ rfl _ _ 26 rfl N 25 tk (U nO 0 0) 1 24 Tryz.underlying26 hk hx0 hx1 hx2 rfl aj _ _ _ rfl F10.1 (sO ⟨w9.heap.size,0,nO⟩) 1 1 [U rs lr.length rc] rfl rfl (λh=>aX) ?qc2 lY ?qc4 ?qc5 ?qc6 ?_);(try (case qc2=>exact uK w9 _ _))
       case qc4=>unfold maxLen;have:=LL.out;omega
       case qc5=>have:=LL.out;omega
       (try (case qc6=>first|omega|(rw[zA];omega)|(simp;omega)|simp));intro v' w10 hown hgrow hat;rw[HLF.out] at hown;have F11:=F10.grown (x:=⟨rs,rc,j1 f noneG⟩) R10 hown hgrow fa;have hb10:Below N w9 w10:=((bR _ w9).alloc z9 _).grown hgrow an (λk hk=>(aM F10.1 hk).2);obtain⟨fs',fc',rfl,-,-,-⟩:=F11.rows;clear hown hgrow hat F10 F9 R10 RX y0 y1 y2 yz yf p0 p1 p2 pz;have P4:PrAt w10 w.heap.size (v:Int) (f:Int) s c cap:=P9.low hb10 aa;have A4:X3 w10 (w.heap.size+1) (Bb false) (U nO 0 0) (U nO 0 0):=A9.same (hb10.block _ aa) hb10.size;have Z4:X3 w10 (w.heap.size+1+1) (Bb false) (U vs l.length vc) (U fs L.length fc):=Z9.same (hb10.block _ aa) hb10.size;have V4:GsIn (λb=>w.heap.size+1+1+1<=b/\b < N) w10 vs (j1 v cV):=V9.same (λb hS _=>hb10.block b hS.2) hb10.size;have B4:=B9.trans (hb10.mono aa);have z4:N<=w10.heap.size:=lT z9 hb10.size;clear P9 A9 Z9 V9 B9 z9 hb10;obtain⟨⟨y0,y1,y2⟩,yz,yf⟩:=id Z4;have yf2:=yf 2;clear yf;go_wp2;go_roundw
       case rel=>exact⟨k2+1,fs',fc',L++[⟨rs,rc,j1 f noneG⟩],aa,aJ,P4.far au _,A4.far au _,by rw[q9];exact Z4.put2 _,F11.old (pV au _).1 (pV au _).2 (B:=N),vU,V4.same (λb hS _=>hSe _ _ _ _ au) bx,B4.setCell au _,pi⟩
       case measure=>simp[intOf];omega
    ·have n2:¬(k2:Int) < (c.length:Int):=by omega
     have ek2:k2=c.length:=aa;have ELL:Hid (L.length=c.length):=by show _=_;rw[LL.out,ek2]
     have HFC:Hid (L.length<=fc/\fc<=maxLen):=by
      obtain⟨fs0,fc0,e0,hk0,hk00,-⟩:=FR.rows;cases e0;exact⟨hk0,hk00⟩
     have hch:∀b,b≠w.heap.size+1->(((w6.setCell ⟨w.heap.size+1,0,nO⟩ (Bb false)).setCell ⟨w.heap.size+1,1,nO⟩ (U vs l.length vc)).setCell ⟨w.heap.size+1,2,nO⟩ (U fs L.length fc)).heap[b]? =w6.heap[b]? :=λb hb=>lN;have hcz:w6.heap.size<=(((w6.setCell ⟨w.heap.size+1,0,nO⟩ (Bb false)).setCell ⟨w.heap.size+1,1,nO⟩ (U vs l.length vc)).setCell ⟨w.heap.size+1,2,nO⟩ (U fs L.length fc)).heap.size:=bx;have FX:=FR.old (w':=(((w6.setCell ⟨w.heap.size+1,0,nO⟩ (Bb false)).setCell ⟨w.heap.size+1,1,nO⟩ (U vs l.length vc)).setCell ⟨w.heap.size+1,2,nO⟩ (U fs L.length fc))) (λb hb=>hch b aa) hcz;have GX:=GV.same (w':=(((w6.setCell ⟨w.heap.size+1,0,nO⟩ (Bb false)).setCell ⟨w.heap.size+1,1,nO⟩ (U vs l.length vc)).setCell ⟨w.heap.size+1,2,nO⟩ (U fs L.length fc))) (λb hS _=>hch b aa) hcz;have BX:bl w (((w6.setCell ⟨w.heap.size+1,0,nO⟩ (Bb false)).setCell ⟨w.heap.size+1,1,nO⟩ (U vs l.length vc)).setCell ⟨w.heap.size+1,2,nO⟩ (U fs L.length fc)):=((BR.setCell ah _).setCell ah _).setCell ah _;have HFX:Hid (∀wz:World,(∀b,w.heap.size<=b->b < (((w6.setCell ⟨w.heap.size+1,0,nO⟩ (Bb false)).setCell ⟨w.heap.size+1,1,nO⟩ (U vs l.length vc)).setCell ⟨w.heap.size+1,2,nO⟩ (U fs L.length fc)).heap.size->wz.heap[b]? =(((w6.setCell ⟨w.heap.size+1,0,nO⟩ (Bb false)).setCell ⟨w.heap.size+1,1,nO⟩ (U vs l.length vc)).setCell ⟨w.heap.size+1,2,nO⟩ (U fs L.length fc)).heap[b]?)->(((w6.setCell ⟨w.heap.size+1,0,nO⟩ (Bb false)).setCell ⟨w.heap.size+1,1,nO⟩ (U vs l.length vc)).setCell ⟨w.heap.size+1,2,nO⟩ (U fs L.length fc)).heap.size<=wz.heap.size->GsAt wz vs (j1 v cV)/\RowsAt wz fs (j1 c.length (j1 f noneG))):=λwz hs hz=>by
      obtain⟨fs0,fc0,e0,hk0,hk00,RW0⟩:=(FX.olden (w':=wz) (λb hb hlt=>hs b aa hlt) hz).rows;cases e0;rw[HL.out,ek2] at RW0;exact⟨(GX.same (λb hS hlt=>hs b (by have:=hS.1;omega) hlt) hz).at,RW0⟩
     obtain⟨⟨y0,y1,y2⟩,yz,yf⟩:=id ZR;obtain⟨⟨a0,a1,a2⟩,az,af⟩:=id AR;have f0:=af 0;have f1:=af 1;have f2:=af 2;clear af yf hch hcz FX GX;go_wp2;refine bodyPost_ret (v:=Ag #[Bb false,U vs l.length vc,U fs L.length fc]) (by simp[results,Tryz.results69,go_sem,a0,a1,a2]) rfl ⟨⟨vs,vc,fs,fc,?_,(λwz hs hz=>HFX.out wz hs hz),?_,?_⟩,BX⟩
     ·rw[LV.out,ELL.out]
      simp only[j7]
     ·simp only[j7]
      rw[<-LV.out];exact HVC.out
     ·simp only[j7]
      rw[<-ELL.out];exact HFC.out
end
section
open Go.RowKit
theorem Fm (ss:oA)(cap:Nat)(l:List Int)(w:World)(hl:l.length<=1000000)(hs:IntsAt w ss l):
  Calls pG 179 #[U ss l.length cap] w λe w'=>∃v,e=Rt v/\w'.ownsRow w.heap.size 3 1 v l.length (l.map (.int .i64))/\bl w w':=by
 cases ss with
 |none=>
  have h0:l=[]:=by
   rcases hs with h|⟨_,_,h,_⟩
   ·exact h
   ·cases h
  subst h0;refine(Tryz.slices_Clone_int_nil _ _ _).mono ?_;rintro e w' ⟨rfl,rfl⟩;exact⟨_,rfl,⟨rfl,.inl ⟨rfl,rfl⟩⟩,bR _ _⟩
 |some a=>
  by_cases h0:l=[]
  ·subst h0
   refine(Tryz.slices_Clone_int_zero a cap w).mono ?_;rintro e w' ⟨v,rfl,ho,-,hb⟩;exact⟨_,rfl,ho,hb⟩
  ·obtain⟨b,off,e,hb,hc⟩:=hs.get 0 (List.length_pos_iff.2 h0)
   cases e;refine(Tryz.slices_Clone_int b off l.length cap l w (lR _) aa (λj hj=> ?_)).mono ?_
   ·rw[hc j hj]
    simp[List.getD,z7 hj]
   ·rintro e w' ⟨v,rfl,ho,-,hb'⟩
    rw[List.take_length] at ho;exact⟨_,rfl,ho,hb'⟩

theorem M0 (V F:Int)(s:oA)(c:lI)(cap:Nat)(g:Gs)(ss:oA)(gc:Nat)(h:Gs)(st:oA)(hc:Nat)(w:World)
  (hcd:CodeAt w s c)(hs:IntsAt w ss g.s)(h1:g.s.length<=gc)(h2:gc<=maxLen)(ht:IntsAt w st h.s)(h3:h.s.length<=hc)(h4:hc<=maxLen)(hck:aY V F c [g,h]=0)(hlen:g.s.length<=1000000):
  Calls pG 164 #[pv V F s c cap,I .i64 4,gv g ss gc,gv h st hc] w λe w'=>∃v,e=Rt (Tu #[Ag #[Bb g.n,Bb g.sp.n,I .i64 g.sp.lo,I .i64 g.sp.hi,Bb g.t,Bb g.f,v],Bb false,I .i64 0])/\w'.ownsRow w.heap.size 3 1 v g.s.length (g.s.map (.int .i64))/\bl w w':=by
 obtain⟨P0,G0,H0,R0,F0⟩:=dP w V F s c cap g ss gc h st hc;have B0:=cU w V F s c cap g ss gc h st hc;have C0:CodeAt (bN w V F s c cap g ss gc h st hc) s c:=hcd.below B0 (lR _);have I0:IntsAt (bN w V F s c cap g ss gc h st hc) ss g.s:=hs.below B0 (lR _);have J0:IntsAt (bN w V F s c cap g ss gc h st hc) st h.s:=ht.below B0 (lR _);have L0:=GsAt.new2 (bN w V F s c cap g ss gc h st hc) g ss gc h st hc I0 h1 h2 J0 h3 h4;simp only[zA] at L0;have HC:=ae (cc V F s c cap (sO ⟨w.heap.size+1+1+1+1,0,nO⟩) [g,h] 2 _ (C0.alloc _) L0 ah);have FG:Fr7 (bN w V F s c cap g ss gc h st hc) (w.heap.size+1):=⟨λj=>aV,ah⟩;rw[hck] at HC;go_enter Tryz.func164,Tryz.ntmps164;go_wp2_with fail;refine HC.out.mono ?_;rintro e w1 ⟨rfl,hb1⟩;have G1:=(G0.alloc _).call hb1;have H1:=(H0.alloc _).call hb1;have R1:=(R0.alloc _).call hb1;have I1:=(I0.alloc _).call hb1;have J1:=(J0.alloc _).call hb1;have F1:Fr7 w1 (w.heap.size+1+1+1):=(F0.alloc _).call hb1;have B1:bl w w1:=(B0.alloc B0.size _).trans (hb1.mono an);have X1:Fr7 w1 (w.heap.size+1):=(FG.alloc _).call hb1;clear hb1 FG G0 H0 R0 I0 J0 F0 B0 C0 P0 L0 hcd hs ht HC;obtain⟨⟨g0,g1,g2,g3,g4,g5,g6⟩,gz⟩:=id G1;obtain⟨⟨k0,k1,k2,k3,k4,k5,k6⟩,kz⟩:=id H1;simp only[j0] at g0 g1 g2 g3 g4 g5 g6 k0 k1 k2 k3 k4 k5 k6;go_wp2_with fail;refine(Fm ss gc g.s _ hlen I1).mono ?_;rintro e w2 ⟨v,rfl,hown,hb2⟩;have G2:=G1.call hb2;have R2:=R1.call hb2;have F2:=F1.call hb2;have X2:=X1.call hb2;have B2:=B1.trans (hb2.mono B1.size);have z2:=F1.2;clear hb2 g0 g1 g2 g3 g4 g5 g6 gz k0 k1 k2 k3 k4 k5 k6 kz;have O2:=hown;obtain⟨vs,vc,hv,-,-,-,-⟩:=IntsAt.own hown;subst hv;obtain⟨⟨g0,g1,g2,g3,g4,g5,g6⟩,gz⟩:=id G2;simp only[j0] at g0 g1 g2 g3 g4 g5 g6;have fx:=X2.1;obtain⟨⟨r0,r1,r2,r3,r4,r5,r6⟩,rz⟩:=id R2;simp only[j0,bC] at r0 r1 r2 r3 r4 r5 r6;have fz:=F2.1;clear hown;go_wp2;refine bodyPost_ret (v:=Tu #[Ag #[Bb g.n,Bb g.sp.n,I .i64 g.sp.lo,I .i64 g.sp.hi,Bb g.t,Bb g.f,U vs g.s.length vc],Bb false,I .i64 0]) (by simp[results,Tryz.results164,go_sem,r0,r1,r2,r3,r4,r5,r6,g0,g1,g2,g3,g4,g5,g6]) rfl ⟨_,rfl,?_,?_⟩
 ·exact eZ (e8 (lG O2 aa) aa) aa
 ·exact bo (B2.setCell (by show w.heap.size<=w.heap.size+1;omega) _) aa
def Kq (w:World)(g:Gs)(ss:oA)(gc:Nat)(h:Gs)(st:oA)(hc:Nat)(w':World):Prop:=
 (w'.cell? ⟨w.heap.size+1,0,nO⟩=sO (Bb g.n)/\w'.cell? ⟨w.heap.size+1,1,nO⟩=sO (Bb g.sp.n)/\w'.cell? ⟨w.heap.size+1,2,nO⟩=sO (I .i64 g.sp.lo)/\w'.cell? ⟨w.heap.size+1,3,nO⟩=sO (I .i64 g.sp.hi)/\w'.cell? ⟨w.heap.size+1,4,nO⟩=sO (Bb g.t)/\w'.cell? ⟨w.heap.size+1,5,nO⟩=sO (Bb g.f)/\w'.cell? ⟨w.heap.size+1,6,nO⟩=sO (U ss g.s.length gc))/\
 (w'.cell? ⟨w.heap.size+1+1,0,nO⟩=sO (Bb h.n)/\w'.cell? ⟨w.heap.size+1+1,1,nO⟩=sO (Bb h.sp.n)/\w'.cell? ⟨w.heap.size+1+1,2,nO⟩=sO (I .i64 h.sp.lo)/\w'.cell? ⟨w.heap.size+1+1,3,nO⟩=sO (I .i64 h.sp.hi)/\w'.cell? ⟨w.heap.size+1+1,4,nO⟩=sO (Bb h.t)/\w'.cell? ⟨w.heap.size+1+1,5,nO⟩=sO (Bb h.f)/\w'.cell? ⟨w.heap.size+1+1,6,nO⟩=sO (U st h.s.length hc))

theorem tm {p:Prop}(h:p:=by
 refine wpAnyH_ready (rs:=[11]) ag ah ?_;refine AllReadyH.cons rfl (λK hK=> ?_) AllReadyH.nil;go_simp;refine(HW.out _ 2 _ L5).mono ?_;rintro e w6 ⟨rfl,hb6⟩;have G6:=G5.call hb6;have H6:=H5.call hb6;have R6:=R5.call hb6;have F6:=F5.call hb6;have L6:=L5.call hb6;have B6:=B5.trans (hb6.mono B5.size);refine hK.out _ _ (KS _ G6 H6) (λhHeld6=> ?_);clear hK K hb6;refine sm ?_;obtain⟨⟨r0,r1,r2,r3,r4,r5,r6⟩,rz⟩:=id R6;simp only[Nat.zero_add,bC] at r0 r1 r2 r3 r4 r5 r6;have fz:=F6.1;refine wpAnyH_ready (rs:=[12]) ag ah ?_;refine AllReadyH.cons rfl (λK hK=> ?_) AllReadyH.nil;go_simp;refine hK.out _ _ (KS _ (G6.put7 aa) (H6.put7 aa)) (λhHeldz=> ?_);clear hK K;refine sm ?_;refine vH 13 ?_ ?_;refine vH 14 ?_ ?_;refine wpAnyH_done ag ?_ _;go_wp2;refine bodyPost_ret (v:=.tuple #[gv ⟨false,⟨true,0,0⟩,y,n,[]⟩ none 0,.bool wr,.int .i64 0]) pT rfl ⟨rfl,?_⟩;exact bo B6 aa):p:=h
theorem tO {p:Prop}(h:p:=by
 refine wpAnyH_ready (rs:=[7]) ag ah ?_;refine AllReadyH.cons rfl (λK hK=> ?_) AllReadyH.nil;go_simp;refine(ku _ _ _).mono ?_;rintro e w5 ⟨rfl,hb5⟩;have G5:=G4.call hb5;have H5:=H4.call hb5;have R5:=R4.call hb5;have F5:=F4.call hb5;have L5:=L4.call hb5;have B5:=B4.trans (hb5.mono B4.size);refine hK.out _ _ (KS _ G5 H5) (λhHeld5=> ?_);clear hK K hb5;refine sm ?_;exact tm):p:=h
theorem MQ (V F:Int)(s:oA)(c:lI)(cap:Nat)(g:Gs)(ss:oA)(gc:Nat)(h:Gs)(st:oA)(hc:Nat)(w:World)
  (hcd:CodeAt w s c)(hs:IntsAt w ss g.s)(h1:g.s.length<=gc)(h2:gc<=maxLen)(ht:IntsAt w st h.s)(h3:h.s.length<=hc)(h4:hc<=maxLen)(hck:aY V F c [g,h]=0):
  Calls pG 164 #[pv V F s c cap,I .i64 8,gv g ss gc,gv h st hc] w λe w'=>e=Rt (Tu #[gv ⟨false,⟨true,0,0⟩,!(g.sp.n||h.sp.n)&&decide (g.sp.lo < h.sp.hi),!(g.sp.n||h.sp.n)&&decide (h.sp.lo<=g.sp.hi),[]⟩ nO 0,Bb ([g,h].any aL&& ![g,h].any ap),I .i64 0])/\bl w w':=by
 obtain⟨P0,G0,H0,R0,F0⟩:=dP w V F s c cap g ss gc h st hc;have B0:=cU w V F s c cap g ss gc h st hc;have C0:CodeAt (bN w V F s c cap g ss gc h st hc) s c:=hcd.below B0 (lR _);have I0:IntsAt (bN w V F s c cap g ss gc h st hc) ss g.s:=hs.below B0 (lR _);have J0:IntsAt (bN w V F s c cap g ss gc h st hc) st h.s:=ht.below B0 (lR _);have L0:=GsAt.new2 (bN w V F s c cap g ss gc h st hc) g ss gc h st hc I0 h1 h2 J0 h3 h4;simp only[zA] at L0;have HC:=ae (cc V F s c cap (sO ⟨w.heap.size+1+1+1+1,0,nO⟩) [g,h] 2 _ (C0.alloc _) L0 ah);rw[hck] at HC;have HL:=ae (λw=>Ki g.sp h.sp w);generalize (!(g.sp.n||h.sp.n)&&decide (g.sp.lo < h.sp.hi))=y at HL |-;generalize (!(g.sp.n||h.sp.n)&&decide (h.sp.lo<=g.sp.hi))=n at HL |-;have HW:=ae (λls lc w hL=>rC ls [g,h] lc w ah hL);generalize ([g,h].any aL&& ![g,h].any ap)=wr at HW |-;go_enter Tryz.func164,Tryz.ntmps164;go_wp2_with fail;refine HC.out.mono ?_;rintro e w1 ⟨rfl,hb1⟩;have G1:=(G0.alloc _).call hb1;have H1:=(H0.alloc _).call hb1;have R1:=(R0.alloc _).call hb1;have I1:=(I0.alloc _).call hb1;have J1:=(J0.alloc _).call hb1;have F1:Fr7 w1 (w.heap.size+1+1+1):=(F0.alloc _).call hb1;have B1:bl w w1:=(B0.alloc B0.size _).trans (hb1.mono an);clear hb1 G0 H0 R0 I0 J0 F0 B0 C0 P0 L0 hcd hs ht HC;clear I1 J1;obtain⟨⟨g0,g1,g2,g3,g4,g5,g6⟩,gz⟩:=id G1;obtain⟨⟨k0,k1,k2,k3,k4,k5,k6⟩,kz⟩:=id H1;simp only[j0] at g0 g1 g2 g3 g4 g5 g6 k0 k1 k2 k3 k4 k5 k6;go_wp2;have KS:∀wx,GuAt wx (w.heap.size+1) 0 g ss gc->GuAt wx (w.heap.size+1+1) 0 h st hc->Kq w g ss gc h st hc wx:=λwx a b=>⟨by simpa using a.1,by simpa using b.1⟩;have G2:=G1.drew;have H2:=H1.drew;have R2:=R1.drew;have F2:=F1.drew;have B2:=B1.drew;refine wp_region_held_drew (S:=Kq w g ss gc h st hc) ag (KS _ G2 H2) (λhHeld=> ?_);unfold Kq at hHeld KS |-;clear G1 H1 R1 F1 B1 g0 g1 g2 g3 g4 g5 g6 gz k0 k1 k2 k3 k4 k5 k6 kz;generalize w1.drew=w2 at *;refine vH 0 ?_ ?_;refine vH 1 ?_ ?_;refine vH 2 ?_ ?_;refine vH 3 ?_ ?_;refine vH 8 ?_ ?_;refine vH 9 ?_ ?_;refine wpAnyH_ready (rs:=[4,10]) ag ah ?_;refine AllReadyH.cons rfl (λK hK=> ?_) (AllReadyH.cons rfl (λK hK=> ?_) AllReadyH.nil)
 ·go_simp
  refine(HL.out _).mono ?_;rintro e w3 ⟨rfl,hb3⟩;have G3:=G2.call hb3;have H3:=H2.call hb3;have R3:=R2.call hb3;have F3:=F2.call hb3;have B3:=B2.trans (hb3.mono B2.size);refine hK.out _ _ (KS _ G3 H3) (λhHeld3=> ?_);clear hK K hb3;refine sm ?_;refine vH 5 ?_ ?_;refine vH 6 ?_ ?_;refine wpAnyH_ready (rs:=[7,10]) ag ah ?_;refine AllReadyH.cons rfl (λK hK=> ?_) (AllReadyH.cons rfl (λK hK=> ?_) AllReadyH.nil)
  ·go_simp
   refine(ku _ _ _).mono ?_;rintro e w4 ⟨rfl,hb4⟩;have G4:=G3.call hb4;have H4:=H3.call hb4;have R4:=R3.call hb4;have F4:=F3.call hb4;have B4:=B3.trans (hb4.mono B3.size);refine hK.out _ _ (KS _ G4 H4) (λhHeld4=> ?_);clear hK K hb4;refine sm ?_;refine wpAnyH_ready (rs:=[10]) ag ah ?_;refine AllReadyH.cons rfl (λK hK=> ?_) AllReadyH.nil;go_simp;have G5:=G4.alloc (Cc #[Bb g.n,Bb g.sp.n,I .i64 g.sp.lo,I .i64 g.sp.hi,Bb g.t,Bb g.f,U ss g.s.length gc,Bb h.n,Bb h.sp.n,I .i64 h.sp.lo,I .i64 h.sp.hi,Bb h.t,Bb h.f,U st h.s.length hc] 91);have H5:=H4.alloc (Cc #[Bb g.n,Bb g.sp.n,I .i64 g.sp.lo,I .i64 g.sp.hi,Bb g.t,Bb g.f,U ss g.s.length gc,Bb h.n,Bb h.sp.n,I .i64 h.sp.lo,I .i64 h.sp.hi,Bb h.t,Bb h.f,U st h.s.length hc] 91);have R5:=R4.alloc (Cc #[Bb g.n,Bb g.sp.n,I .i64 g.sp.lo,I .i64 g.sp.hi,Bb g.t,Bb g.f,U ss g.s.length gc,Bb h.n,Bb h.sp.n,I .i64 h.sp.lo,I .i64 h.sp.hi,Bb h.t,Bb h.f,U st h.s.length hc] 91);have F5:=F4.alloc (Cc #[Bb g.n,Bb g.sp.n,I .i64 g.sp.lo,I .i64 g.sp.hi,Bb g.t,Bb g.f,U ss g.s.length gc,Bb h.n,Bb h.sp.n,I .i64 h.sp.lo,I .i64 h.sp.hi,Bb h.t,Bb h.f,U st h.s.length hc] 91);have B5:=B4.alloc B4.size (Cc #[Bb g.n,Bb g.sp.n,I .i64 g.sp.lo,I .i64 g.sp.hi,Bb g.t,Bb g.f,U ss g.s.length gc,Bb h.n,Bb h.sp.n,I .i64 h.sp.lo,I .i64 h.sp.hi,Bb h.t,Bb h.f,U st h.s.length hc] 91);have L5:=GhAt.new2 w4 g ss gc h st hc;refine hK.out _ _ (KS _ G5 H5) (λhHeld5=> ?_);clear hK K;refine sm ?_;unfold oU at L5;generalize w4.alloc (Cc #[Bb g.n,Bb g.sp.n,I .i64 g.sp.lo,I .i64 g.sp.hi,Bb g.t,Bb g.f,U ss g.s.length gc,Bb h.n,Bb h.sp.n,I .i64 h.sp.lo,I .i64 h.sp.hi,Bb h.t,Bb h.f,U st h.s.length hc] 91)=w5 at *;generalize w4.heap.size=sb at *;exact tm
  ·go_simp
   have G4:=G3.alloc (Cc #[Bb g.n,Bb g.sp.n,I .i64 g.sp.lo,I .i64 g.sp.hi,Bb g.t,Bb g.f,U ss g.s.length gc,Bb h.n,Bb h.sp.n,I .i64 h.sp.lo,I .i64 h.sp.hi,Bb h.t,Bb h.f,U st h.s.length hc] 91);have H4:=H3.alloc (Cc #[Bb g.n,Bb g.sp.n,I .i64 g.sp.lo,I .i64 g.sp.hi,Bb g.t,Bb g.f,U ss g.s.length gc,Bb h.n,Bb h.sp.n,I .i64 h.sp.lo,I .i64 h.sp.hi,Bb h.t,Bb h.f,U st h.s.length hc] 91);have R4:=R3.alloc (Cc #[Bb g.n,Bb g.sp.n,I .i64 g.sp.lo,I .i64 g.sp.hi,Bb g.t,Bb g.f,U ss g.s.length gc,Bb h.n,Bb h.sp.n,I .i64 h.sp.lo,I .i64 h.sp.hi,Bb h.t,Bb h.f,U st h.s.length hc] 91);have F4:=F3.alloc (Cc #[Bb g.n,Bb g.sp.n,I .i64 g.sp.lo,I .i64 g.sp.hi,Bb g.t,Bb g.f,U ss g.s.length gc,Bb h.n,Bb h.sp.n,I .i64 h.sp.lo,I .i64 h.sp.hi,Bb h.t,Bb h.f,U st h.s.length hc] 91);have B4:=B3.alloc B3.size (Cc #[Bb g.n,Bb g.sp.n,I .i64 g.sp.lo,I .i64 g.sp.hi,Bb g.t,Bb g.f,U ss g.s.length gc,Bb h.n,Bb h.sp.n,I .i64 h.sp.lo,I .i64 h.sp.hi,Bb h.t,Bb h.f,U st h.s.length hc] 91);have L4:=GhAt.new2 w3 g ss gc h st hc;refine hK.out _ _ (KS _ G4 H4) (λhHeld4=> ?_);clear hK K;refine sm ?_;unfold oU at L4;generalize w3.alloc (Cc #[Bb g.n,Bb g.sp.n,I .i64 g.sp.lo,I .i64 g.sp.hi,Bb g.t,Bb g.f,U ss g.s.length gc,Bb h.n,Bb h.sp.n,I .i64 h.sp.lo,I .i64 h.sp.hi,Bb h.t,Bb h.f,U st h.s.length hc] 91)=w4 at *;generalize w3.heap.size=sb at *;exact tO
 ·go_simp
  have G3:=G2.alloc (Cc #[Bb g.n,Bb g.sp.n,I .i64 g.sp.lo,I .i64 g.sp.hi,Bb g.t,Bb g.f,U ss g.s.length gc,Bb h.n,Bb h.sp.n,I .i64 h.sp.lo,I .i64 h.sp.hi,Bb h.t,Bb h.f,U st h.s.length hc] 91);have H3:=H2.alloc (Cc #[Bb g.n,Bb g.sp.n,I .i64 g.sp.lo,I .i64 g.sp.hi,Bb g.t,Bb g.f,U ss g.s.length gc,Bb h.n,Bb h.sp.n,I .i64 h.sp.lo,I .i64 h.sp.hi,Bb h.t,Bb h.f,U st h.s.length hc] 91);have R3:=R2.alloc (Cc #[Bb g.n,Bb g.sp.n,I .i64 g.sp.lo,I .i64 g.sp.hi,Bb g.t,Bb g.f,U ss g.s.length gc,Bb h.n,Bb h.sp.n,I .i64 h.sp.lo,I .i64 h.sp.hi,Bb h.t,Bb h.f,U st h.s.length hc] 91);have F3:=F2.alloc (Cc #[Bb g.n,Bb g.sp.n,I .i64 g.sp.lo,I .i64 g.sp.hi,Bb g.t,Bb g.f,U ss g.s.length gc,Bb h.n,Bb h.sp.n,I .i64 h.sp.lo,I .i64 h.sp.hi,Bb h.t,Bb h.f,U st h.s.length hc] 91);have B3:=B2.alloc B2.size (Cc #[Bb g.n,Bb g.sp.n,I .i64 g.sp.lo,I .i64 g.sp.hi,Bb g.t,Bb g.f,U ss g.s.length gc,Bb h.n,Bb h.sp.n,I .i64 h.sp.lo,I .i64 h.sp.hi,Bb h.t,Bb h.f,U st h.s.length hc] 91);have L3:=GhAt.new2 w2 g ss gc h st hc;refine hK.out _ _ (KS _ G3 H3) (λhHeld3=> ?_);clear hK K;refine sm ?_;unfold oU at L3;generalize w2.alloc (Cc #[Bb g.n,Bb g.sp.n,I .i64 g.sp.lo,I .i64 g.sp.hi,Bb g.t,Bb g.f,U ss g.s.length gc,Bb h.n,Bb h.sp.n,I .i64 h.sp.lo,I .i64 h.sp.hi,Bb h.t,Bb h.f,U st h.s.length hc] 91)=w3 at *;generalize w2.heap.size=sb at *;refine wpAnyH_ready (rs:=[4]) ag ah ?_;refine AllReadyH.cons rfl (λK hK=> ?_) AllReadyH.nil;go_simp;refine(HL.out _).mono ?_;rintro e w4 ⟨rfl,hb4⟩;have G4:=G3.call hb4;have H4:=H3.call hb4;have R4:=R3.call hb4;have F4:=F3.call hb4;have L4:=L3.call hb4;have B4:=B3.trans (hb4.mono B3.size);refine hK.out _ _ (KS _ G4 H4) (λhHeld4=> ?_);clear hK K hb4;refine sm ?_;refine vH 5 ?_ ?_;refine vH 6 ?_ ?_;exact tO
def DG (w:World)(g:Gs)(ss:oA)(gc:Nat)(h:Gs)(st:oA)(hc:Nat)(ob:Nat)(o:Gs)(wx:World):Prop:=
 GuAt wx w.heap.size 0 g ss gc/\GuAt wx (w.heap.size+1) 0 h st hc/\GuAt wx (w.heap.size+1+1) 0 bC nO 0/\Fr7 wx (w.heap.size+1+1)/\GuAt wx ob 0 o nO 0/\Fr7 wx ob/\bl w wx/\w.heap.size+1+1 < ob
theorem DG.call {w:World}{g:Gs}{ss:oA}{gc:Nat}{h:Gs}{st:oA}{hc:Nat}{ob:Nat}{o:Gs}{wx wy:World}(d:DG w g ss gc h st hc ob o wx)(hb:bl wx wy):DG w g ss gc h st hc ob o wy:=
 ⟨d.1.call hb,d.2.1.call hb,d.2.2.1.call hb,d.2.2.2.1.call hb,d.2.2.2.2.1.call hb,d.2.2.2.2.2.1.call hb,d.2.2.2.2.2.2.1.trans (hb.mono d.2.2.2.2.2.2.1.size),d.2.2.2.2.2.2.2⟩
theorem DG.drew {w:World}{g:Gs}{ss:oA}{gc:Nat}{h:Gs}{st:oA}{hc:Nat}{ob:Nat}{o:Gs}{wx:World}(d:DG w g ss gc h st hc ob o wx):DG w g ss gc h st hc ob o wx.drew:=d.call (bR _ _).drew

theorem Mo (w:World)(g:Gs)(ss:oA)(gc:Nat)(h:Gs)(st:oA)(hc:Nat):GuAt (((w.alloc (Cc #[Bb g.n,Bb g.sp.n,I .i64 g.sp.lo,I .i64 g.sp.hi,Bb g.t,Bb g.f,U ss g.s.length gc] 91)).alloc (Cc #[Bb h.n,Bb h.sp.n,I .i64 h.sp.lo,I .i64 h.sp.hi,Bb h.t,Bb h.f,U st h.s.length hc] 91)).alloc (Cc #[Bb false,Bb false,I .i64 0,I .i64 0,Bb false,Bb false,U nO 0 0] 91)) w.heap.size 0 g ss gc/\GuAt (((w.alloc (Cc #[Bb g.n,Bb g.sp.n,I .i64 g.sp.lo,I .i64 g.sp.hi,Bb g.t,Bb g.f,U ss g.s.length gc] 91)).alloc (Cc #[Bb h.n,Bb h.sp.n,I .i64 h.sp.lo,I .i64 h.sp.hi,Bb h.t,Bb h.f,U st h.s.length hc] 91)).alloc (Cc #[Bb false,Bb false,I .i64 0,I .i64 0,Bb false,Bb false,U nO 0 0] 91)) (w.heap.size+1) 0 h st hc/\GuAt (((w.alloc (Cc #[Bb g.n,Bb g.sp.n,I .i64 g.sp.lo,I .i64 g.sp.hi,Bb g.t,Bb g.f,U ss g.s.length gc] 91)).alloc (Cc #[Bb h.n,Bb h.sp.n,I .i64 h.sp.lo,I .i64 h.sp.hi,Bb h.t,Bb h.f,U st h.s.length hc] 91)).alloc (Cc #[Bb false,Bb false,I .i64 0,I .i64 0,Bb false,Bb false,U nO 0 0] 91)) (w.heap.size+1+1) 0 bC nO 0/\Fr7 (((w.alloc (Cc #[Bb g.n,Bb g.sp.n,I .i64 g.sp.lo,I .i64 g.sp.hi,Bb g.t,Bb g.f,U ss g.s.length gc] 91)).alloc (Cc #[Bb h.n,Bb h.sp.n,I .i64 h.sp.lo,I .i64 h.sp.hi,Bb h.t,Bb h.f,U st h.s.length hc] 91)).alloc (Cc #[Bb false,Bb false,I .i64 0,I .i64 0,Bb false,Bb false,U nO 0 0] 91)) (w.heap.size+1+1)/\bl w (((w.alloc (Cc #[Bb g.n,Bb g.sp.n,I .i64 g.sp.lo,I .i64 g.sp.hi,Bb g.t,Bb g.f,U ss g.s.length gc] 91)).alloc (Cc #[Bb h.n,Bb h.sp.n,I .i64 h.sp.lo,I .i64 h.sp.hi,Bb h.t,Bb h.f,U st h.s.length hc] 91)).alloc (Cc #[Bb false,Bb false,I .i64 0,I .i64 0,Bb false,Bb false,U nO 0 0] 91)):=by
 obtain⟨G0,H0,B0⟩:=yL w g ss gc h st hc;have R0:=GuAt.new ((w.alloc (Cc #[Bb g.n,Bb g.sp.n,I .i64 g.sp.lo,I .i64 g.sp.hi,Bb g.t,Bb g.f,U ss g.s.length gc] 91)).alloc (Cc #[Bb h.n,Bb h.sp.n,I .i64 h.sp.lo,I .i64 h.sp.hi,Bb h.t,Bb h.f,U st h.s.length hc] 91)) bC nO 0;rw[zA,zA] at R0;exact⟨G0.alloc _,H0.alloc _,R0,⟨λj=>aV,ah⟩,ai⟩
theorem kD {w:World}{g:Gs}{ss:oA}{gc:Nat}{h:Gs}{st:oA}{hc:Nat}{w1:World}(hb:Below (((w.alloc (Cc #[Bb g.n,Bb g.sp.n,I .i64 g.sp.lo,I .i64 g.sp.hi,Bb g.t,Bb g.f,U ss g.s.length gc] 91)).alloc (Cc #[Bb h.n,Bb h.sp.n,I .i64 h.sp.lo,I .i64 h.sp.hi,Bb h.t,Bb h.f,U st h.s.length hc] 91)).alloc (Cc #[Bb false,Bb false,I .i64 0,I .i64 0,Bb false,Bb false,U nO 0 0] 91)).heap.size (((w.alloc (Cc #[Bb g.n,Bb g.sp.n,I .i64 g.sp.lo,I .i64 g.sp.hi,Bb g.t,Bb g.f,U ss g.s.length gc] 91)).alloc (Cc #[Bb h.n,Bb h.sp.n,I .i64 h.sp.lo,I .i64 h.sp.hi,Bb h.t,Bb h.f,U st h.s.length hc] 91)).alloc (Cc #[Bb false,Bb false,I .i64 0,I .i64 0,Bb false,Bb false,U nO 0 0] 91)) w1):DG w g ss gc h st hc w1.heap.size noneG (w1.alloc (Cc #[Bb noneG.n,Bb noneG.sp.n,I .i64 noneG.sp.lo,I .i64 noneG.sp.hi,Bb noneG.t,Bb noneG.f,U nO noneG.s.length 0] 91)):=by
 obtain⟨G0,H0,R0,F0,B0⟩:=Mo w g ss gc h st hc;have G1:=(G0.call hb).alloc (Cc #[Bb noneG.n,Bb noneG.sp.n,I .i64 noneG.sp.lo,I .i64 noneG.sp.hi,Bb noneG.t,Bb noneG.f,U nO noneG.s.length 0] 91);have H1:=(H0.call hb).alloc (Cc #[Bb noneG.n,Bb noneG.sp.n,I .i64 noneG.sp.lo,I .i64 noneG.sp.hi,Bb noneG.t,Bb noneG.f,U nO noneG.s.length 0] 91);have z:=(R0.call hb).2;have R1:=(R0.call hb).alloc (Cc #[Bb noneG.n,Bb noneG.sp.n,I .i64 noneG.sp.lo,I .i64 noneG.sp.hi,Bb noneG.t,Bb noneG.f,U nO noneG.s.length 0] 91);have F1:=(F0.call hb).alloc (Cc #[Bb noneG.n,Bb noneG.sp.n,I .i64 noneG.sp.lo,I .i64 noneG.sp.hi,Bb noneG.t,Bb noneG.f,U nO noneG.s.length 0] 91);have B1:=B0.trans (hb.mono B0.size);exact⟨G1,H1,R1,F1,GuAt.new w1 noneG nO 0,⟨λj=>aV,ah⟩,B1.alloc B1.size _,z⟩
theorem DG.out {w:World}{g:Gs}{ss:oA}{gc:Nat}{h:Gs}{st:oA}{hc:Nat}{ob:Nat}{o o':Gs}{wx wy:World}(d:DG w g ss gc h st hc ob o wx)(hb:∀k,k≠ob->wy.heap[k]? =wx.heap[k]?)(hz:wy.heap.size=wx.heap.size)(hf:Fr7 wy ob)(ho:GuAt wy ob 0 o' nO 0)(hB:bl w wy):DG w g ss gc h st hc ob o' wy:=by
 have hg:∀{k:Nat} {x:Gs} {xs:oA} {xc:Nat},k≠ob->GuAt wx k 0 x xs xc->GuAt wy k 0 x xs xc:=by
  intro k x xs xc hk hg;obtain⟨⟨h0,h1,h2,h3,h4,h5,h6⟩,hz'⟩:=hg;have hc:∀j,wy.cell? ⟨k,j,nO⟩=wx.cell? ⟨k,j,nO⟩:=λj=>World.cell?_of_block (a:=⟨k,j,nO⟩) (hb k hk);exact⟨⟨(hc _).trans h0,(hc _).trans h1,(hc _).trans h2,(hc _).trans h3,(hc _).trans h4,(hc _).trans h5,(hc _).trans h6⟩,by rw[hz];exact hz'⟩
 have z:=d.2.2.2.2.2.2.2;refine⟨hg aa d.1,hg aa d.2.1,hg aa d.2.2.1,⟨λj=> ?_,by rw[hz];exact d.2.2.2.1.2⟩,ho,hf,hB,z⟩;rw[World.frozen?_of_block (a:=⟨w.heap.size+1+1,j,nO⟩) (hb _ (by show w.heap.size+1+1≠ob;omega))];exact d.2.2.2.1.1 j
theorem sX {p:Prop}(h:p:=by
 obtain⟨⟨h0,h1,h2,h3,h4,h5,h6⟩,hz⟩:=d.2.2.2.2.1;simp only[Nat.zero_add] at h0 h1 h2 h3 h4 h5 h6;exact⟨⟨by simp[go_sem,h0],by simp[go_sem,h1],by simp[go_sem,h2],by simp[go_sem,h3],by simp[go_sem,h4],by simp[go_sem,h5],by simp[go_sem,h6]⟩,d9⟩):p:=h
theorem uG {p:Prop}(h:p:=by
 have z:=d.2.2.2.2.2.2.2;refine d.out (λk hk=>Below.heap_setCell _ _ _ _ hk) ah d.2.2.2.2.2.1.set ?_ (d.2.2.2.2.2.2.1.setCell an _);exact sX):p:=h
theorem DG.t {w:World}{g:Gs}{ss:oA}{gc:Nat}{h:Gs}{st:oA}{hc:Nat}{ob:Nat}{o:Gs}{wx:World}{y:Bool}(d:DG w g ss gc h st hc ob o wx):DG w g ss gc h st hc ob ⟨o.n,o.sp,y,o.f,o.s⟩ (wx.setCell ⟨ob,4,nO⟩ (Bb y)):=by
 exact uG
theorem DG.f {w:World}{g:Gs}{ss:oA}{gc:Nat}{h:Gs}{st:oA}{hc:Nat}{ob:Nat}{o:Gs}{wx:World}{y:Bool}(d:DG w g ss gc h st hc ob o wx):DG w g ss gc h st hc ob ⟨o.n,o.sp,o.t,y,o.s⟩ (wx.setCell ⟨ob,5,nO⟩ (Bb y)):=by
 exact uG
theorem DG.sp {w:World}{g:Gs}{ss:oA}{gc:Nat}{h:Gs}{st:oA}{hc:Nat}{ob:Nat}{o:Gs}{wx:World}{s:Sp}(d:DG w g ss gc h st hc ob o wx):DG w g ss gc h st hc ob ⟨o.n,s,o.t,o.f,o.s⟩ (((wx.setCell ⟨ob,1,nO⟩ (Bb s.n)).setCell ⟨ob,2,nO⟩ (I .i64 s.lo)).setCell ⟨ob,3,nO⟩ (I .i64 s.hi)):=by
 have z:=d.2.2.2.2.2.2.2;refine d.out (λk hk=>by rw[hSe _ _ _ _ hk,hSe _ _ _ _ hk,hSe _ _ _ _ hk]) ah d.2.2.2.2.2.1.set.set.set ?_ (((d.2.2.2.2.2.2.1.setCell an _).setCell an _).setCell an _);exact sX
theorem M9 (w:World)(g:Gs)(ss:oA)(gc:Nat)(h:Gs)(st:oA)(hc:Nat):
  Calls pG 115 #[I .i64 4,gv g ss gc,gv h st hc] w λe w'=>e=Rt (if ap g=true then Tu #[gv noneG nO 0,Bb false] else Tu #[gv g ss gc,Bb false])/\bl w w':=by
 generalize hnn:ap g=nn;have Hnn:=ae hnn;clear hnn;have HNg:=ae (λw=>bL g ss gc w);have HNh:=ae (λw=>bL h st hc w);generalize ap g=ng at *;generalize ap h=nh at *;go_enter Tryz.func115,Tryz.ntmps115;go_upto_region 1 with fail
 go_cut [8] (λt wy=>∃ob,t=Pp (sO ⟨ob,0,nO⟩)/\DG w g ss gc h st hc ob noneG wy)
 case first=>
  go_wp2_with fail;refine(cZ _).mono ?_;rintro e w1 ⟨rfl,hb1⟩;have D1:=kD hb1;go_wp2_with fail;go_meet;refine⟨w1.heap.size,rfl,?_⟩;exact D1
 obtain⟨ob,rfl,D1⟩:=hcut;obtain⟨⟨g0,g1,g2,g3,g4,g5,g6⟩,gz⟩:=id D1.1;simp only[j0] at g0 g1 g2 g3 g4 g5 g6;obtain⟨⟨k0,k1,k2,k3,k4,k5,k6⟩,kz⟩:=id D1.2.1;simp only[j0] at k0 k1 k2 k3 k4 k5 k6;have fz:=D1.2.2.2.1.1;have fo:=D1.2.2.2.2.2.1.1;have zo:=D1.2.2.2.2.2.2.2;go_upto_region 2 with fail
 go_cut [27] (λt wy=>t=Bb nn/\DG w g ss gc h st hc ob noneG wy)
 case first=>
  go_wp2_with fail;refine(HNg.out _).mono ?_;rintro e w2 ⟨rfl,hb2⟩;have D2:=D1.call hb2;clear g0 g1 g2 g3 g4 g5 g6 gz k0 k1 k2 k3 k4 k5 k6 kz fz fo;cases ng with
  |true=>
   go_wp2_with fail;go_meet;exact⟨by rw[<-Hnn.out];first|done|rfl|simp,D2⟩
  |false=>
   go_wp2_with fail;go_meet;exact⟨by rw[<-Hnn.out];first|done|rfl|simp,D2⟩
 obtain⟨rfl,D2⟩:=hcut;clear g0 g1 g2 g3 g4 g5 g6 gz k0 k1 k2 k3 k4 k5 k6 kz fz fo zo D1 HNg HNh Hnn;cases nn with
 |true=>
  obtain⟨⟨g0,g1,g2,g3,g4,g5,g6⟩,gz⟩:=id D2.1;simp only[j0] at g0 g1 g2 g3 g4 g5 g6;obtain⟨⟨r0,r1,r2,r3,r4,r5,r6⟩,rz⟩:=id D2.2.2.1;simp only[j0] at r0 r1 r2 r3 r4 r5 r6;obtain⟨⟨o0,o1,o2,o3,o4,o5,o6⟩,oz⟩:=id D2.2.2.2.2.1;simp only[j0] at o0 o1 o2 o3 o4 o5 o6;simp only[bC] at r0 r1 r2 r3 r4 r5 r6;have fz:=D2.2.2.2.1.1;have fo:=D2.2.2.2.2.2.1.1;have zo:=D2.2.2.2.2.2.2.2;simp only[noneG] at o0 o1 o2 o3 o4 o5 o6;go_wp2;refine bodyPost_ret (v:=Tu #[gv noneG nO 0,Bb false]) lZ rfl ⟨?_,?_⟩
  ·rfl
  ·exact bo D2.2.2.2.2.2.2.1 aa
 |false=>
  obtain⟨⟨g0,g1,g2,g3,g4,g5,g6⟩,gz⟩:=id D2.1;simp only[j0] at g0 g1 g2 g3 g4 g5 g6;obtain⟨⟨r0,r1,r2,r3,r4,r5,r6⟩,rz⟩:=id D2.2.2.1;simp only[j0] at r0 r1 r2 r3 r4 r5 r6;simp only[bC] at r0 r1 r2 r3 r4 r5 r6;have fz:=D2.2.2.2.1.1;have fo:=D2.2.2.2.2.2.1.1;have zo:=D2.2.2.2.2.2.2.2;go_wp2;refine bodyPost_ret (v:=Tu #[gv g ss gc,Bb false]) g8 rfl ⟨?_,?_⟩
  ·rfl
  ·exact bo D2.2.2.2.2.2.2.1 aa
def nV (b ob:Nat)(g:Gs)(ss:oA)(gc:Nat)(h:Gs)(st:oA)(hc:Nat)(o:Gs)(w':World):Prop:=
 (w'.cell? ⟨b,0,nO⟩=sO (Bb g.n)/\w'.cell? ⟨b,1,nO⟩=sO (Bb g.sp.n)/\w'.cell? ⟨b,2,nO⟩=sO (I .i64 g.sp.lo)/\w'.cell? ⟨b,3,nO⟩=sO (I .i64 g.sp.hi)/\w'.cell? ⟨b,4,nO⟩=sO (Bb g.t)/\w'.cell? ⟨b,5,nO⟩=sO (Bb g.f)/\w'.cell? ⟨b,6,nO⟩=sO (U ss g.s.length gc))/\(w'.cell? ⟨b+1,0,nO⟩=sO (Bb h.n)/\w'.cell? ⟨b+1,1,nO⟩=sO (Bb h.sp.n)/\w'.cell? ⟨b+1,2,nO⟩=sO (I .i64 h.sp.lo)/\w'.cell? ⟨b+1,3,nO⟩=sO (I .i64 h.sp.hi)/\w'.cell? ⟨b+1,4,nO⟩=sO (Bb h.t)/\w'.cell? ⟨b+1,5,nO⟩=sO (Bb h.f)/\w'.cell? ⟨b+1,6,nO⟩=sO (U st h.s.length hc))/\(w'.cell? ⟨ob,0,nO⟩=sO (Bb o.n)/\w'.cell? ⟨ob,1,nO⟩=sO (Bb o.sp.n)/\w'.cell? ⟨ob,2,nO⟩=sO (I .i64 o.sp.lo)/\w'.cell? ⟨ob,3,nO⟩=sO (I .i64 o.sp.hi)/\w'.cell? ⟨ob,4,nO⟩=sO (Bb o.t)/\w'.cell? ⟨ob,5,nO⟩=sO (Bb o.f)/\w'.cell? ⟨ob,6,nO⟩=sO (U nO o.s.length 0))

theorem Du {a b:Sp}(h1:(a.n==b.n)=true)(h2:(a.lo==b.lo)=true)(h3:(a.hi==b.hi)=true):a=b:=by
 obtain⟨a1,a2,a3⟩:=a;obtain⟨b1,b2,b3⟩:=b;simp only[beq_iff_eq] at h1 h2 h3;rw[h1,h2,h3]
def iX (b:Nat)(g:Gs)(ss:oA)(gc:Nat)(h:Gs)(st:oA)(hc:Nat)(w':World):Prop:=
 (w'.cell? ⟨b,0,nO⟩=sO (Bb g.n)/\w'.cell? ⟨b,1,nO⟩=sO (Bb g.sp.n)/\w'.cell? ⟨b,2,nO⟩=sO (I .i64 g.sp.lo)/\w'.cell? ⟨b,3,nO⟩=sO (I .i64 g.sp.hi)/\w'.cell? ⟨b,4,nO⟩=sO (Bb g.t)/\w'.cell? ⟨b,5,nO⟩=sO (Bb g.f)/\w'.cell? ⟨b,6,nO⟩=sO (U ss g.s.length gc))/\(w'.cell? ⟨b+1,0,nO⟩=sO (Bb h.n)/\w'.cell? ⟨b+1,1,nO⟩=sO (Bb h.sp.n)/\w'.cell? ⟨b+1,2,nO⟩=sO (I .i64 h.sp.lo)/\w'.cell? ⟨b+1,3,nO⟩=sO (I .i64 h.sp.hi)/\w'.cell? ⟨b+1,4,nO⟩=sO (Bb h.t)/\w'.cell? ⟨b+1,5,nO⟩=sO (Bb h.f)/\w'.cell? ⟨b+1,6,nO⟩=sO (U st h.s.length hc))
theorem mX {p:Prop}(h:p:=by
 go_wp2_with fail;refine(HM.out _).mono ?_;rintro e w5 ⟨rfl,hb5⟩;have D5:=DR.call hb5;clear g0 g1 g2 g3 g4 g5 g6 gz k0 k1 k2 k3 k4 k5 k6 kz fz fo zo o0 o1 o2 o3 o4 o5 o6 oz;have fz:=D5.2.2.2.1.1;have fo:=D5.2.2.2.2.2.1.1;have zo:=D5.2.2.2.2.2.2.2;have o0:=D5.2.2.2.2.1.1;simp only[noneG,Nat.zero_add] at o0;obtain⟨o0,o1,o2,o3,o4,o5,o6⟩:=o0;go_wp2_with fail;go_meet;rw[Ey.out];exact D5.t):p:=h
theorem tx {p:Prop}(h:p:=by
 have en1:=Hn1.out;have en2:=Hn2.out;cases cb with
 |true=>
  have Ey:Hid (y=true):=uR;go_wp2_with fail;go_meet;rw[Ey.out];exact DR.t
 |false=>
  have h3:(g.t=true/\h.t=true)\/g.t=false\/(g.t=true/\h.t=false):=by cases g.t<;>cases h.t<;>simp
  rcases h3 with⟨et1,et2⟩|et1|⟨et1,et2⟩
  ·have Ey:Hid (y=true):=by show _=_;rw[<-Hy.out,et1,et2];simp
   go_wp2_with fail;go_meet;rw[Ey.out];exact DR.t
  ·have h3:(g.f=true/\h.f=true)\/g.f=false\/(g.f=true/\h.f=false):=by cases g.f<;>cases h.f<;>simp
   rcases h3 with⟨ef1,ef2⟩|ef1|⟨ef1,ef2⟩
   ·have Ey:Hid (y=true):=by show _=_;rw[<-Hy.out,ef1,ef2];simp
    go_wp2_with fail;go_meet;rw[Ey.out];exact DR.t
   ·have Ey:Hid (y= !ms.n):=by show _=_;first|(rw[<-Hy.out,<-HA.out,en1,en2,et1,ef1];simp;done)|(rw[<-Hy.out,<-HA.out,en1,et1,ef1];simp)
    exact mX
   ·have Ey:Hid (y= !ms.n):=by show _=_;first|(rw[<-Hy.out,<-HA.out,en1,en2,et1,ef1,ef2];simp;done)|(rw[<-Hy.out,<-HA.out,en1,et1,ef1,ef2];simp)
    exact mX
  ·have h3:(g.f=true/\h.f=true)\/g.f=false\/(g.f=true/\h.f=false):=by cases g.f<;>cases h.f<;>simp
   rcases h3 with⟨ef1,ef2⟩|ef1|⟨ef1,ef2⟩
   ·have Ey:Hid (y=true):=by show _=_;rw[<-Hy.out,ef1,ef2];simp
    go_wp2_with fail;go_meet;rw[Ey.out];exact DR.t
   ·have Ey:Hid (y= !ms.n):=by show _=_;first|(rw[<-Hy.out,<-HA.out,en1,en2,et1,et2,ef1];simp;done)|(rw[<-Hy.out,<-HA.out,en1,et1,et2,ef1];simp)
    exact mX
   ·have Ey:Hid (y= !ms.n):=by show _=_;first|(rw[<-Hy.out,<-HA.out,en1,en2,et1,et2,ef1,ef2];simp;done)|(rw[<-Hy.out,<-HA.out,en1,et1,et2,ef1,ef2];simp)
    go_wp2_with fail;refine(HM.out _).mono ?_;rintro e w5 ⟨rfl,hb5⟩;have D5:=DR.call hb5;clear g0 g1 g2 g3 g4 g5 g6 gz k0 k1 k2 k3 k4 k5 k6 kz fz fo zo o0 o1 o2 o3 o4 o5 o6 oz;have fz:=D5.2.2.2.1.1;have fo:=D5.2.2.2.2.2.1.1;have zo:=D5.2.2.2.2.2.2.2;have o0:=D5.2.2.2.2.1.1;simp only[noneG,Nat.zero_add] at o0;obtain⟨o0,o1,o2,o3,o4,o5,o6⟩:=o0;go_wp2_with fail;go_meet;rw[Ey.out];exact D5.t):p:=h
theorem kv {p:Prop}(h:p:=by
 have JR:=ht.below DR.2.2.2.2.2.2.1 (Nat.le_refl _);obtain⟨b,off,rfl,hb,hcell⟩:=IR.get k hlt;have c0:=hcell k hlt;have n0:(0:Int)<=(k:Int):=aa;have n1:(k:Int) < (g.s.length:Int):=aa;clear hcell;cases cb with
 |true=>
  have HN:Hid (true=(g.s.take (k+1)).any λx=>h.s.contains x):=by
   show _=_;rw[List.take_add_one,List.any_append,<-HC.out];rfl
  go_wp2;refine wp_region_held_drew (S:=λ_=>True) ag trivial (λhHeld=> ?_);refine vH 0 ?_ ?_;refine vH 1 ?_ ?_;refine uH 2 ?_;refine sm ?_;refine uH 3 ?_;refine sm ?_;refine uH 4 ?_;refine sm ?_;refine uH 5 ?_;refine sm ?_;refine uH 6 ?_;refine sm ?_;refine uH 7 ?_;refine sm ?_;refine uH 8 ?_;refine sm ?_;refine uH 9 ?_;refine sm ?_;refine vH 10 ?_ ?_;refine vH 11 ?_ ?_;refine wpAnyH_done ag ?_ _;go_wp2;go_roundw
  case rel=>exact⟨k+1,true,aa,aJ,rfl,HN,DR.drew⟩
  case measure=>simp[intOf];omega
 |false=>
  have HN:Hid (decide (g.s[k]∈h.s)=(g.s.take (k+1)).any λx=>h.s.contains x):=by
   show _=_;rw[List.take_add_one,List.any_append,<-HC.out,List.getElem?_eq_getElem hlt];simp
  go_wp2;go_region_held3 (λwx=>wx.cell? ⟨w.heap.size,6,none⟩=some (.slice (some ⟨b,off,none⟩) g.s.length gc)/\wx.cell? ⟨w.heap.size+1,6,none⟩=some (.slice st h.s.length hc)/\wx.cell? ⟨b,off+k,none⟩=some (.int .i64 g.s[k]))
   (exact⟨g6,k6,c0⟩)
   ((go_at_call 168;refine(rZ g.s[k] st hc h.s _ hhl JR.drew).mono ?_;rintro e w2 ⟨rfl,hw2⟩;have hw3:=hw2.symm;subst hw3))
  go_wp2;go_roundw
  case rel=>exact⟨k+1,decide (g.s[k]∈h.s),aa,aJ,rfl,HN,DR.drew⟩
  case measure=>simp[intOf];omega):p:=h
theorem kh {p:Prop}(h:p:=by
 go_wp2_with fail;refine(HNg.out _).mono ?_;rintro e w2 ⟨rfl,hb2⟩;have D2:=D1.call hb2;clear g0 g1 g2 g3 g4 g5 g6 gz k0 k1 k2 k3 k4 k5 k6 kz fz fo;cases ng with
 |true=>
  go_wp2_with fail;go_meet;exact⟨by rw[<-Hnn.out];first|done|rfl|simp,D2⟩
 |false=>
  obtain⟨⟨k0,k1,k2,k3,k4,k5,k6⟩,kz⟩:=id D2.2.1;simp only[Nat.zero_add] at k0 k1 k2 k3 k4 k5 k6;have fz:=D2.2.2.2.1.1;have fo:=D2.2.2.2.2.2.1.1;have zo2:=D2.2.2.2.2.2.2.2;go_wp2_with fail;refine(HNh.out _).mono ?_;rintro e w3 ⟨rfl,hb3⟩;have D3:=D2.call hb3;go_wp2_with fail;go_meet;exact⟨by rw[<-Hnn.out];first|done|rfl|simp,D3⟩):p:=h
theorem kr {p:Prop}(h:p:=by
 obtain⟨⟨g0,g1,g2,g3,g4,g5,g6⟩,gz⟩:=id D2.1;simp only[Nat.zero_add] at g0 g1 g2 g3 g4 g5 g6;obtain⟨⟨r0,r1,r2,r3,r4,r5,r6⟩,rz⟩:=id D2.2.2.1;simp only[Nat.zero_add] at r0 r1 r2 r3 r4 r5 r6;obtain⟨⟨o0,o1,o2,o3,o4,o5,o6⟩,oz⟩:=id D2.2.2.2.2.1;simp only[Nat.zero_add] at o0 o1 o2 o3 o4 o5 o6;simp only[bC] at r0 r1 r2 r3 r4 r5 r6;have fz:=D2.2.2.2.1.1;have fo:=D2.2.2.2.2.2.1.1;have zo:=D2.2.2.2.2.2.2.2;simp only[noneG] at o0 o1 o2 o3 o4 o5 o6;go_wp2;refine bodyPost_ret (v:=.tuple #[gv noneG none 0,.bool false]) lZ rfl ⟨?_,?_⟩
 ·rfl
 ·exact bo D2.2.2.2.2.2.2.1 aa):p:=h
theorem nD {p:Prop}(h:p:=by
 go_wp2_with fail;refine(cZ _).mono ?_;rintro e w1 ⟨rfl,hb1⟩;have D1:=kD hb1;go_wp2_with fail;go_meet;refine⟨w1.heap.size,rfl,?_⟩;exact D1):p:=h
theorem AM {p:Prop}(h:p:=by
 have HM:Hid (∀w,Calls Tryz.prog 169 #[sv g.sp,sv h.sp] w λe w'=>e=.returned (.agg #[.bool (aF g.sp h.sp).n,.int .i64 (aF g.sp h.sp).lo,.int .i64 (aF g.sp h.sp).hi])/\bl w w'):=λw=>iu g.sp h.sp w;have HSg:=ae (λw=>eH g ss gc w);have HSh:=ae (λw=>eH h st hc w);generalize hy:((g.n&&h.n)||(!(aF g.sp h.sp).n||((g.t&&h.t)||((g.f&&h.f)||g.s.any λx=>h.s.contains x))))=y;have Hy:=ae hy;generalize hal:(!cM g h)=al;have Hal:Hid (al=(decide (bB g < 0)||(decide (bB g≠bB h)||@decide _ (@instDecidableNot _ (g.sp.dq h.sp))))):=pC;clear hy hal;generalize bB g=x1 at *;generalize bB h=x2 at *;generalize aF g.sp h.sp=ms at *;have hfld:∀wx:World,(Instr.field 89 (.agg #[.bool ms.n,.int .i64 ms.lo,.int .i64 ms.hi]) 0).run Tryz.prog wx=.ok (.bool ms.n) wx:=λ_=>ag;generalize hnn:(ap g||ap h)=nn;have Hnn:=ae hnn;clear hnn;have HNg:=ae (λw=>bL g ss gc w);have HNh:=ae (λw=>bL h st hc w);generalize ap g=ng at *;generalize ap h=nh at *;go_enter Tryz.func115,Tryz.ntmps115;go_upto_region 1 with fail
 go_cut [8] (λt wy=>∃ob,t=.pointer (some ⟨ob,0,none⟩)/\DG w g ss gc h st hc ob noneG wy)
 case first=>
  exact nD
 obtain⟨ob,rfl,D1⟩:=hcut;obtain⟨⟨g0,g1,g2,g3,g4,g5,g6⟩,gz⟩:=id D1.1;simp only[Nat.zero_add] at g0 g1 g2 g3 g4 g5 g6;obtain⟨⟨k0,k1,k2,k3,k4,k5,k6⟩,kz⟩:=id D1.2.1;simp only[Nat.zero_add] at k0 k1 k2 k3 k4 k5 k6;have fz:=D1.2.2.2.1.1;have fo:=D1.2.2.2.2.2.1.1;have zo:=D1.2.2.2.2.2.2.2;go_upto_region 2 with fail
 go_cut [27] (λt wy=>t=.bool nn/\DG w g ss gc h st hc ob noneG wy)
 case first=>
  exact kh
 obtain⟨rfl,D2⟩:=hcut;clear g0 g1 g2 g3 g4 g5 g6 gz k0 k1 k2 k3 k4 k5 k6 kz fz fo zo D1 HNg HNh Hnn;cases nn with
 |true=>
  exact kr
 |false=>
  go_wp2_with fail;go_loopw [11,12] (λcm i wr=>∃(k:Nat) (cb:Bool),k<=g.s.length/\i=.int .i64 k/\cm=.bool cb/\Hid (cb=(g.s.take k).any λx=>h.s.contains x)/\DG w g ss gc h st hc ob noneG wr) (λ_ i _=>g.s.length - (intOf i).toNat)
  case atStart=>exact⟨0,false,Nat.zero_le _,rfl,rfl,dI,D2⟩
  case round=>
   obtain⟨k,cb,hk,rfl,rfl,HC,DR⟩:=hrel;clear D2;obtain⟨⟨g0,g1,g2,g3,g4,g5,g6⟩,gz⟩:=id DR.1;simp only[Nat.zero_add] at g0 g1 g2 g3 g4 g5 g6;obtain⟨⟨k0,k1,k2,k3,k4,k5,k6⟩,kz⟩:=id DR.2.1;simp only[Nat.zero_add] at k0 k1 k2 k3 k4 k5 k6;have fz:=DR.2.2.2.1.1;have fo:=DR.2.2.2.2.2.1.1;have zo:=DR.2.2.2.2.2.2.2;by_cases hlt:k < g.s.length
   ·have IR:=hs.below DR.2.2.2.2.2.2.1 (Nat.le_refl _)
    exact kv
   ·have ek:k=g.s.length:=by omega
    have HA:Hid (cb=g.s.any λx=>h.s.contains x):=ph;subst ek;clear hlt;clear HC;obtain⟨⟨o0,o1,o2,o3,o4,o5,o6⟩,oz⟩:=id DR.2.2.2.2.1;simp only[Nat.zero_add] at o0 o1 o2 o3 o4 o5 o6;simp only[noneG] at o0 o1 o2 o3 o4 o5 o6;go_upto_region 17 with fail
    go_cut [11,98] (λt t' wy=>DG w g ss gc h st hc ob ⟨false,⟨true,0,0⟩,y,false,[]⟩ wy)
    case first=>
     exact tx
    have D6:=hcut;clear DR g0 g1 g2 g3 g4 g5 g6 gz k0 k1 k2 k3 k4 k5 k6 kz fz fo zo o0 o1 o2 o3 o4 o5 o6 oz hcut Hy HA HM;go_wp2_with fail;have KS:∀{o:Gs} wx,DG w g ss gc h st hc ob o wx->iX w.heap.size g ss gc h st hc wx:=λwx a=>⟨kN,kB⟩;generalize wc=w6 at *;have D7:=D6.drew;refine wp_region_held_drew (S:=iX w.heap.size g ss gc h st hc) ag (KS _ D7) (λhHeld=> ?_);unfold iX at hHeld KS |-;clear D6;generalize w6.drew=w7 at *;refine vH 0 ?_ ?_;refine wpAnyH_ready (rs:=[1]) ag ah ?_;refine AllReadyH.cons rfl (λK hK=> ?_) AllReadyH.nil;go_simp;refine(HSg.out _).mono ?_;rintro e w8 ⟨rfl,hb8⟩;have D8:=D7.call hb8;refine hK.out _ _ (KS _ D8) (λhHeld8=> ?_);clear hK K hb8 D7;refine sm ?_;refine vH 2 ?_ ?_;have Hlt:∃lt:Bool,Hid (decide (x1 < 0)=lt):=⟨_,rfl⟩;obtain⟨lt,Hlt⟩:=Hlt;rw[Hlt.out];cases lt with
    |true=>
     have Eal:Hid (al=true):=by show _=_;rw[Hal.out,Hlt.out];rfl
     refine vH 3 ?_ ?_;refine uH 4 ?_;refine sm ?_;refine uH 5 ?_;refine sm ?_;refine uH 6 ?_;refine sm ?_;refine uH 7 ?_;refine sm ?_;refine uH 8 ?_;refine sm ?_;refine vH 9 ?_ ?_;refine vH 10 ?_ ?_;refine uH 11 ?_;refine sm ?_;refine uH 12 ?_;refine sm ?_;refine uH 13 ?_;refine sm ?_;refine uH 14 ?_;refine sm ?_;refine uH 15 ?_;refine sm ?_;refine vH 16 ?_ ?_;refine vH 17 ?_ ?_;obtain⟨⟨o0,o1,o2,o3,o4,o5,o6⟩,oz⟩:=id D8.2.2.2.2.1;simp only[Nat.zero_add] at o0 o1 o2 o3 o4 o5 o6;have fo:=D8.2.2.2.2.2.1.1;have D9:=D8.f (y:=true);refine wpAnyH_ready (rs:=[18]) ag ah ?_;refine AllReadyH.cons rfl (λK hK=> ?_) AllReadyH.nil;go_simp;refine hK.out _ (w8.setCell ⟨ob,5,none⟩ (.bool true)) (KS _ D9) (λhHeldz=> ?_);clear hK K o0 o1 o2 o3 o4 o5 o6 oz fo D8;refine sm ?_;generalize w8.setCell ⟨ob,5,none⟩ (.bool true)=w9 at *;refine wpAnyH_done ag ?_ _;obtain⟨⟨r0,r1,r2,r3,r4,r5,r6⟩,rz⟩:=id D9.2.2.1;simp only[Nat.zero_add] at r0 r1 r2 r3 r4 r5 r6;obtain⟨⟨o0,o1,o2,o3,o4,o5,o6⟩,oz⟩:=id D9.2.2.2.2.1;simp only[Nat.zero_add] at o0 o1 o2 o3 o4 o5 o6;simp only[bC] at r0 r1 r2 r3 r4 r5 r6;have fz:=D9.2.2.2.1.1;have fo:=D9.2.2.2.2.2.1.1;have zo:=D9.2.2.2.2.2.2.2;go_wp2;refine bodyPost_ret (v:=.tuple #[gv ⟨false,⟨true,0,0⟩,y,true,[]⟩ none 0,.bool false]) g8 rfl ⟨?_,?_⟩
     ·rw[show al=true from Eal.out]
     ·exact bo D9.2.2.2.2.2.2.1 aa
    |false=>
     have hne:x1≠x2:=by
      rcases hS.out with h|h
      ·exact absurd h (of_decide_eq_false Hlt.out)
      ·exact h
     refine vH 3 ?_ ?_;refine vH 4 ?_ ?_;refine vH 6 ?_ ?_;refine wpAnyH_ready (rs:=[5]) ag ah ?_;refine AllReadyH.cons rfl (λK hK=> ?_) AllReadyH.nil;go_simp;refine(HSg.out _).mono ?_;rintro e w9 ⟨rfl,hb9⟩;have D9:=D8.call hb9;refine hK.out _ _ (KS _ D9) (λhHeld9=> ?_);clear hK K hb9 D8;refine sm ?_;refine wpAnyH_ready (rs:=[7]) ag ah ?_;refine AllReadyH.cons rfl (λK hK=> ?_) AllReadyH.nil;go_simp;refine(HSh.out _).mono ?_;rintro e w10 ⟨rfl,hb10⟩;have D10:=D9.call hb10;refine hK.out _ _ (KS _ D10) (λhHeld10=> ?_);clear hK K hb10 D9;refine sm ?_;have hneb:(x1 !=x2)=true:=by simpa using hne
     have Eal:Hid (al=true):=DF;refine vH 8 ?_ ?_;refine vH 9 ?_ ?_;refine vH 10 ?_ ?_;refine uH 11 ?_;refine sm ?_;refine uH 12 ?_;refine sm ?_;refine uH 13 ?_;refine sm ?_;refine uH 14 ?_;refine sm ?_;refine uH 15 ?_;refine sm ?_;refine vH 16 ?_ ?_;refine vH 17 ?_ ?_;obtain⟨⟨o0,o1,o2,o3,o4,o5,o6⟩,oz⟩:=id D10.2.2.2.2.1;simp only[Nat.zero_add] at o0 o1 o2 o3 o4 o5 o6;have fo:=D10.2.2.2.2.2.1.1;have D9:=D10.f (y:=true);refine wpAnyH_ready (rs:=[18]) ag ah ?_;refine AllReadyH.cons rfl (λK hK=> ?_) AllReadyH.nil;go_simp;refine hK.out _ (w10.setCell ⟨ob,5,none⟩ (.bool true)) (KS _ D9) (λhHeldz=> ?_);clear hK K o0 o1 o2 o3 o4 o5 o6 oz fo D10;refine sm ?_;generalize w10.setCell ⟨ob,5,none⟩ (.bool true)=w9 at *;refine wpAnyH_done ag ?_ _;obtain⟨⟨r0,r1,r2,r3,r4,r5,r6⟩,rz⟩:=id D9.2.2.1;simp only[Nat.zero_add] at r0 r1 r2 r3 r4 r5 r6;obtain⟨⟨o0,o1,o2,o3,o4,o5,o6⟩,oz⟩:=id D9.2.2.2.2.1;simp only[Nat.zero_add] at o0 o1 o2 o3 o4 o5 o6;simp only[bC] at r0 r1 r2 r3 r4 r5 r6;have fz:=D9.2.2.2.1.1;have fo:=D9.2.2.2.2.2.1.1;have zo:=D9.2.2.2.2.2.2.2;go_wp2;refine bodyPost_ret (v:=.tuple #[gv ⟨false,⟨true,0,0⟩,y,true,[]⟩ none 0,.bool false]) g8 rfl ⟨?_,?_⟩
     ·rw[show al=true from Eal.out]
     ·exact bo D9.2.2.2.2.2.2.1 aa):p:=h
theorem gh {p:Prop}(h:p:=by
 refine vH 15 ?_ ?_;refine vH 16 ?_ ?_;refine vH 17 ?_ ?_;obtain⟨⟨o0,o1,o2,o3,o4,o5,o6⟩,oz⟩:=id D10.2.2.2.2.1;simp only[Nat.zero_add] at o0 o1 o2 o3 o4 o5 o6;have fo:=D10.2.2.2.2.2.1.1;have D9:=D10.f (y:=true);refine wpAnyH_ready (rs:=[18]) ag ah ?_;refine AllReadyH.cons rfl (λK hK=> ?_) AllReadyH.nil;go_simp;refine hK.out _ (w10.setCell ⟨ob,5,none⟩ (.bool true)) (KS _ D9) (λhHeldz=> ?_);clear hK K o0 o1 o2 o3 o4 o5 o6 oz fo D10;refine sm ?_;generalize w10.setCell ⟨ob,5,none⟩ (.bool true)=w9 at *;refine wpAnyH_done ag ?_ _;obtain⟨⟨r0,r1,r2,r3,r4,r5,r6⟩,rz⟩:=id D9.2.2.1;simp only[Nat.zero_add] at r0 r1 r2 r3 r4 r5 r6;obtain⟨⟨o0,o1,o2,o3,o4,o5,o6⟩,oz⟩:=id D9.2.2.2.2.1;simp only[Nat.zero_add] at o0 o1 o2 o3 o4 o5 o6;simp only[bC] at r0 r1 r2 r3 r4 r5 r6;have fz:=D9.2.2.2.1.1;have fo:=D9.2.2.2.2.2.1.1;have zo:=D9.2.2.2.2.2.2.2;go_wp2;refine bodyPost_ret (v:=.tuple #[gv ⟨false,⟨true,0,0⟩,y,true,[]⟩ none 0,.bool false]) g8 rfl ⟨?_,?_⟩
 ·rw[show al=true from Eal.out]
 ·exact bo D9.2.2.2.2.2.2.1 aa):p:=h
theorem AK {p:Prop}(h:p:=by
 have HM:Hid (∀w,Calls Tryz.prog 169 #[sv g.sp,sv h.sp] w λe w'=>e=.returned (.agg #[.bool (aF g.sp h.sp).n,.int .i64 (aF g.sp h.sp).lo,.int .i64 (aF g.sp h.sp).hi])/\bl w w'):=λw=>iu g.sp h.sp w;have HSg:=ae (λw=>eH g ss gc w);have HSh:=ae (λw=>eH h st hc w);generalize hy:((g.n&&h.n)||(!(aF g.sp h.sp).n||((g.t&&h.t)||((g.f&&h.f)||g.s.any λx=>h.s.contains x))))=y;have Hy:=ae hy;generalize hal:(!cM g h)=al;have Hal:Hid (al=(decide (bB g < 0)||(decide (bB g≠bB h)||@decide _ (@instDecidableNot _ (g.sp.dq h.sp))))):=pC;clear hy hal;generalize bB g=x1 at *;generalize bB h=x2 at *;generalize aF g.sp h.sp=ms at *;have hfld:∀wx:World,(Instr.field 89 (.agg #[.bool ms.n,.int .i64 ms.lo,.int .i64 ms.hi]) 0).run Tryz.prog wx=.ok (.bool ms.n) wx:=λ_=>ag;generalize hnn:(ap g||ap h)=nn;have Hnn:=ae hnn;clear hnn;have HNg:=ae (λw=>bL g ss gc w);have HNh:=ae (λw=>bL h st hc w);generalize ap g=ng at *;generalize ap h=nh at *;go_enter Tryz.func115,Tryz.ntmps115;go_upto_region 1 with fail
 go_cut [8] (λt wy=>∃ob,t=.pointer (some ⟨ob,0,none⟩)/\DG w g ss gc h st hc ob noneG wy)
 case first=>
  exact nD
 obtain⟨ob,rfl,D1⟩:=hcut;obtain⟨⟨g0,g1,g2,g3,g4,g5,g6⟩,gz⟩:=id D1.1;simp only[Nat.zero_add] at g0 g1 g2 g3 g4 g5 g6;obtain⟨⟨k0,k1,k2,k3,k4,k5,k6⟩,kz⟩:=id D1.2.1;simp only[Nat.zero_add] at k0 k1 k2 k3 k4 k5 k6;have fz:=D1.2.2.2.1.1;have fo:=D1.2.2.2.2.2.1.1;have zo:=D1.2.2.2.2.2.2.2;go_upto_region 2 with fail
 go_cut [27] (λt wy=>t=.bool nn/\DG w g ss gc h st hc ob noneG wy)
 case first=>
  exact kh
 obtain⟨rfl,D2⟩:=hcut;clear g0 g1 g2 g3 g4 g5 g6 gz k0 k1 k2 k3 k4 k5 k6 kz fz fo zo D1 HNg HNh Hnn;cases nn with
 |true=>
  exact kr
 |false=>
  go_wp2_with fail;go_loopw [11,12] (λcm i wr=>∃(k:Nat) (cb:Bool),k<=g.s.length/\i=.int .i64 k/\cm=.bool cb/\Hid (cb=(g.s.take k).any λx=>h.s.contains x)/\DG w g ss gc h st hc ob noneG wr) (λ_ i _=>g.s.length - (intOf i).toNat)
  case atStart=>exact⟨0,false,Nat.zero_le _,rfl,rfl,dI,D2⟩
  case round=>
   obtain⟨k,cb,hk,rfl,rfl,HC,DR⟩:=hrel;clear D2;obtain⟨⟨g0,g1,g2,g3,g4,g5,g6⟩,gz⟩:=id DR.1;simp only[Nat.zero_add] at g0 g1 g2 g3 g4 g5 g6;obtain⟨⟨k0,k1,k2,k3,k4,k5,k6⟩,kz⟩:=id DR.2.1;simp only[Nat.zero_add] at k0 k1 k2 k3 k4 k5 k6;have fz:=DR.2.2.2.1.1;have fo:=DR.2.2.2.2.2.1.1;have zo:=DR.2.2.2.2.2.2.2;by_cases hlt:k < g.s.length
   ·have IR:=hs.below DR.2.2.2.2.2.2.1 (Nat.le_refl _)
    exact kv
   ·have ek:k=g.s.length:=by omega
    have HA:Hid (cb=g.s.any λx=>h.s.contains x):=ph;subst ek;clear hlt;clear HC;obtain⟨⟨o0,o1,o2,o3,o4,o5,o6⟩,oz⟩:=id DR.2.2.2.2.1;simp only[Nat.zero_add] at o0 o1 o2 o3 o4 o5 o6;simp only[noneG] at o0 o1 o2 o3 o4 o5 o6;go_upto_region 17 with fail
    go_cut [11,98] (λt t' wy=>DG w g ss gc h st hc ob ⟨false,⟨true,0,0⟩,y,false,[]⟩ wy)
    case first=>
     exact tx
    have D6:=hcut;clear DR g0 g1 g2 g3 g4 g5 g6 gz k0 k1 k2 k3 k4 k5 k6 kz fz fo zo o0 o1 o2 o3 o4 o5 o6 oz hcut Hy HA HM;go_wp2_with fail;have KS:∀{o:Gs} wx,DG w g ss gc h st hc ob o wx->iX w.heap.size g ss gc h st hc wx:=λwx a=>⟨kN,kB⟩;generalize wc=w6 at *;have D7:=D6.drew;refine wp_region_held_drew (S:=iX w.heap.size g ss gc h st hc) ag (KS _ D7) (λhHeld=> ?_);unfold iX at hHeld KS |-;clear D6;generalize w6.drew=w7 at *;refine vH 0 ?_ ?_;refine wpAnyH_ready (rs:=[1]) ag ah ?_;refine AllReadyH.cons rfl (λK hK=> ?_) AllReadyH.nil;go_simp;refine(HSg.out _).mono ?_;rintro e w8 ⟨rfl,hb8⟩;have D8:=D7.call hb8;refine hK.out _ _ (KS _ D8) (λhHeld8=> ?_);clear hK K hb8 D7;refine sm ?_;refine vH 2 ?_ ?_;have Hlt:Hid (decide (x1 < 0)=false):=decide_eq_false (by have:=hS0.out;omega)
    rw[Hlt.out];have hne:=hS1.out;clear hS0 hS1
    ·
     refine vH 3 ?_ ?_;refine vH 4 ?_ ?_;refine vH 6 ?_ ?_;refine wpAnyH_ready (rs:=[5]) ag ah ?_;refine AllReadyH.cons rfl (λK hK=> ?_) AllReadyH.nil;go_simp;refine(HSg.out _).mono ?_;rintro e w9 ⟨rfl,hb9⟩;have D9:=D8.call hb9;refine hK.out _ _ (KS _ D9) (λhHeld9=> ?_);clear hK K hb9 D8;refine sm ?_;refine wpAnyH_ready (rs:=[7]) ag ah ?_;refine AllReadyH.cons rfl (λK hK=> ?_) AllReadyH.nil;go_simp;refine(HSh.out _).mono ?_;rintro e w10 ⟨rfl,hb10⟩;have D10:=D9.call hb10;refine hK.out _ _ (KS _ D10) (λhHeld10=> ?_);clear hK K hb10 D9;refine sm ?_;subst hne;refine vH 8 ?_ ?_;refine vH 9 ?_ ?_;refine vH 10 ?_ ?_;refine vH 11 ?_ ?_;refine vH 12 ?_ ?_;refine vH 13 ?_ ?_;refine vH 14 ?_ ?_;have h4:(g.sp.n==h.sp.n)=false\/((g.sp.n==h.sp.n)=true/\(g.sp.lo==h.sp.lo)=false)\/((g.sp.n==h.sp.n)=true/\(g.sp.lo==h.sp.lo)=true/\(g.sp.hi==h.sp.hi)=false)\/((g.sp.n==h.sp.n)=true/\(g.sp.lo==h.sp.lo)=true/\(g.sp.hi==h.sp.hi)=true):=by
      cases (g.sp.n==h.sp.n)<;>cases (g.sp.lo==h.sp.lo)<;>cases (g.sp.hi==h.sp.hi)<;>simp
     rcases h4 with q1|⟨q1,q2⟩|⟨q1,q2,q3⟩|⟨q1,q2,q3⟩
     ·have Eal:Hid (al=true):=by show _=_;rw[Hal.out,Hlt.out,@decide_eq_true (g.sp≠h.sp) (@instDecidableNot _ (g.sp.dq h.sp)) (λe=>by rw[e] at q1;simp at q1)];simp
      exact gh
     ·have Eal:Hid (al=true):=by show _=_;rw[Hal.out,Hlt.out,@decide_eq_true (g.sp≠h.sp) (@instDecidableNot _ (g.sp.dq h.sp)) (λe=>by rw[e] at q2;simp at q2)];simp
      exact gh
     ·have Eal:Hid (al=true):=by show _=_;rw[Hal.out,Hlt.out,@decide_eq_true (g.sp≠h.sp) (@instDecidableNot _ (g.sp.dq h.sp)) (λe=>by rw[e] at q3;simp at q3)];simp
      exact gh
     ·have Eal:Hid (al=false):=by show _=_;rw[Hal.out,Hlt.out,Du q1 q2 q3];simp
      refine vH 15 ?_ ?_;refine vH 16 ?_ ?_;refine vH 17 ?_ ?_;obtain⟨⟨o0,o1,o2,o3,o4,o5,o6⟩,oz⟩:=id D10.2.2.2.2.1;simp only[Nat.zero_add] at o0 o1 o2 o3 o4 o5 o6;have fo:=D10.2.2.2.2.2.1.1;have D9:=D10.f (y:=false);refine wpAnyH_ready (rs:=[18]) ag ah ?_;refine AllReadyH.cons rfl (λK hK=> ?_) AllReadyH.nil;go_simp;refine hK.out _ (w10.setCell ⟨ob,5,none⟩ (.bool false)) (KS _ D9) (λhHeldz=> ?_);clear hK K o0 o1 o2 o3 o4 o5 o6 oz fo D10;refine sm ?_;generalize w10.setCell ⟨ob,5,none⟩ (.bool false)=w9 at *;refine wpAnyH_done ag ?_ _;obtain⟨⟨r0,r1,r2,r3,r4,r5,r6⟩,rz⟩:=id D9.2.2.1;simp only[Nat.zero_add] at r0 r1 r2 r3 r4 r5 r6;obtain⟨⟨o0,o1,o2,o3,o4,o5,o6⟩,oz⟩:=id D9.2.2.2.2.1;simp only[Nat.zero_add] at o0 o1 o2 o3 o4 o5 o6;simp only[bC] at r0 r1 r2 r3 r4 r5 r6;have fz:=D9.2.2.2.1.1;have fo:=D9.2.2.2.2.2.1.1;have zo:=D9.2.2.2.2.2.2.2;go_wp2;refine bodyPost_ret (v:=.tuple #[gv ⟨false,⟨true,0,0⟩,y,false,[]⟩ none 0,.bool false]) g8 rfl ⟨?_,?_⟩
      ·rw[show al=false from Eal.out]
      ·exact bo D9.2.2.2.2.2.2.1 aa):p:=h
theorem nC {p:Prop}(h:p:=by
 generalize hnn:(ap g||ap h)=nn;have Hnn:=ae hnn;clear hnn;have HNg:=ae (λw=>bL g ss gc w);have HNh:=ae (λw=>bL h st hc w);generalize ap g=ng at *;generalize ap h=nh at *;go_enter Tryz.func115,Tryz.ntmps115;go_upto_region 1 with fail
 go_cut [8] (λt wy=>∃ob,t=.pointer (some ⟨ob,0,none⟩)/\DG w g ss gc h st hc ob noneG wy)
 case first=>
  exact nD
 obtain⟨ob,rfl,D1⟩:=hcut;obtain⟨⟨g0,g1,g2,g3,g4,g5,g6⟩,gz⟩:=id D1.1;simp only[Nat.zero_add] at g0 g1 g2 g3 g4 g5 g6;obtain⟨⟨k0,k1,k2,k3,k4,k5,k6⟩,kz⟩:=id D1.2.1;simp only[Nat.zero_add] at k0 k1 k2 k3 k4 k5 k6;have fz:=D1.2.2.2.1.1;have fo:=D1.2.2.2.2.2.1.1;have zo:=D1.2.2.2.2.2.2.2;go_upto_region 2 with fail
 go_cut [27] (λt wy=>t=.bool nn/\DG w g ss gc h st hc ob noneG wy)
 case first=>
  go_wp2_with fail;refine(HNg.out _).mono ?_;rintro e w2 ⟨rfl,hb2⟩;have D2:=D1.call hb2;clear g0 g1 g2 g3 g4 g5 g6 gz k0 k1 k2 k3 k4 k5 k6 kz fz fo;cases ng with
  |true=>
   go_wp2_with fail;go_meet;exact⟨by rw[<-Hnn.out];first|done|rfl|simp,D2⟩
  |false=>
   obtain⟨⟨k0,k1,k2,k3,k4,k5,k6⟩,kz⟩:=id D2.2.1;simp only[Nat.zero_add] at k0 k1 k2 k3 k4 k5 k6;have fz:=D2.2.2.2.1.1;have fo:=D2.2.2.2.2.2.1.1;have zo2:=D2.2.2.2.2.2.2.2;go_wp2_with fail;refine(HNh.out _).mono ?_;rintro e w3 ⟨rfl,hb3⟩;have D3:=D2.call hb3;go_wp2_with fail;go_meet;exact⟨by rw[<-Hnn.out];first|done|rfl|simp,D3⟩
 obtain⟨rfl,D2⟩:=hcut;clear g0 g1 g2 g3 g4 g5 g6 gz k0 k1 k2 k3 k4 k5 k6 kz fz fo zo D1 HNg HNh Hnn;cases nn with
 |true=>
  obtain⟨⟨g0,g1,g2,g3,g4,g5,g6⟩,gz⟩:=id D2.1;simp only[Nat.zero_add] at g0 g1 g2 g3 g4 g5 g6;obtain⟨⟨r0,r1,r2,r3,r4,r5,r6⟩,rz⟩:=id D2.2.2.1;simp only[Nat.zero_add] at r0 r1 r2 r3 r4 r5 r6;obtain⟨⟨o0,o1,o2,o3,o4,o5,o6⟩,oz⟩:=id D2.2.2.2.2.1;simp only[Nat.zero_add] at o0 o1 o2 o3 o4 o5 o6;simp only[bC] at r0 r1 r2 r3 r4 r5 r6;have fz:=D2.2.2.2.1.1;have fo:=D2.2.2.2.2.2.1.1;have zo:=D2.2.2.2.2.2.2.2;simp only[noneG] at o0 o1 o2 o3 o4 o5 o6;go_wp2;refine bodyPost_ret (v:=.tuple #[gv noneG none 0,.bool false]) lZ rfl ⟨?_,?_⟩
  ·rfl
  ·exact bo D2.2.2.2.2.2.2.1 aa
 |false=>
  obtain⟨⟨g0,g1,g2,g3,g4,g5,g6⟩,gz⟩:=id D2.1;simp only[Nat.zero_add] at g0 g1 g2 g3 g4 g5 g6;obtain⟨⟨k0,k1,k2,k3,k4,k5,k6⟩,kz⟩:=id D2.2.1;simp only[Nat.zero_add] at k0 k1 k2 k3 k4 k5 k6;have fz:=D2.2.2.2.1.1;have fo:=D2.2.2.2.2.2.1.1;have zo:=D2.2.2.2.2.2.2.2;go_upto_region 25 with fail
  go_cut [159] (λt wy=>DG w g ss gc h st hc ob ⟨false,sp,false,false,[]⟩ wy)
  case first=>
   go_wp2_with fail;refine(HD.out _).mono ?_;rintro e w3 ⟨rfl,hb3⟩;have D3:=D2.call hb3;clear hb3 D2 g0 g1 g2 g3 g4 g5 g6 gz k0 k1 k2 k3 k4 k5 k6 kz fz fo zo;obtain⟨⟨o0,o1,o2,o3,o4,o5,o6⟩,oz⟩:=id D3.2.2.2.2.1;simp only[Nat.zero_add] at o0 o1 o2 o3 o4 o5 o6;have fz:=D3.2.2.2.1.1;have fo:=D3.2.2.2.2.2.1.1;have zo:=D3.2.2.2.2.2.2.2;simp only[noneG] at o0 o1 o2 o3 o4 o5 o6;go_wp2_with fail;go_meet;exact D3.sp
  have D3:=hcut;clear D2 g0 g1 g2 g3 g4 g5 g6 gz k0 k1 k2 k3 k4 k5 k6 kz fz fo zo hcut;generalize ho:(⟨false,sp,false,false,[]⟩:Gs)=o at D3;have HO:Hid (Ending.returned (.tuple #[gv o none 0,.bool wr])=Ending.returned (.tuple #[gv ⟨false,sp,false,false,[]⟩ none 0,.bool wr])):=by show _=_;rw[<-ho]
  clear ho;go_wp2_with fail;generalize wc=w3 at *;have KS:∀wx,DG w g ss gc h st hc ob o wx->nV w.heap.size ob g ss gc h st hc o wx:=λwx a=>⟨kN,kB,by simpa using a.2.2.2.2.1.1⟩;have KSp:∀wx,DG w g ss gc h st hc ob o wx->nV w.heap.size ob g ss gc h st hc o (Go.Proofs.YtmapdpcfanecdabGreatDoor.gV wx (w.heap.size+1+1) (.bool o.n) (.bool o.sp.n) (.int .i64 o.sp.lo) (.int .i64 o.sp.hi) (.bool o.t) (.bool o.f) (.slice none o.s.length 0)):=λwx a=>⟨by simpa using(GuAt.put7 a.1 (by omega)).1,by simpa using(GuAt.put7 a.2.1 (by omega)).1,DA⟩;have D4:=D3.drew;refine wp_region_held_drew (S:=nV w.heap.size ob g ss gc h st hc o) ag (KS _ D4) (λhHeld=> ?_);unfold nV at hHeld KS KSp |-;clear D3;generalize w3.drew=w4 at *;refine vH 0 ?_ ?_;refine vH 1 ?_ ?_;refine wpAnyH_ready (rs:=[2]) ag ah ?_;refine AllReadyH.cons rfl (λK hK=> ?_) AllReadyH.nil;go_simp;refine(HOg.out _).mono ?_;rintro e w5 ⟨rfl,hb5⟩;have D5:=D4.call hb5;refine hK.out _ _ (KS _ D5) (λhHeld5=> ?_);clear hK K hb5 D4;refine sm ?_;cases og with
  |true=>
   have ewr:wr=true:=pH;subst ewr;refine vH 3 ?_ ?_;refine uH 4 ?_;refine sm ?_;refine uH 5 ?_;refine sm ?_;refine vH 6 ?_ ?_;obtain⟨⟨r0,r1,r2,r3,r4,r5,r6⟩,rz⟩:=id D5.2.2.1;simp only[Nat.zero_add] at r0 r1 r2 r3 r4 r5 r6;simp only[bC] at r0 r1 r2 r3 r4 r5 r6;have fz:=D5.2.2.2.1.1;have zo:=D5.2.2.2.2.2.2.2;refine wpAnyH_ready (rs:=[7]) ag ah ?_;refine AllReadyH.cons rfl (λK hK=> ?_) AllReadyH.nil;go_simp;refine hK.out _ (Go.Proofs.YtmapdpcfanecdabGreatDoor.gV w5 (w.heap.size+1+1) (.bool o.n) (.bool o.sp.n) (.int .i64 o.sp.lo) (.int .i64 o.sp.hi) (.bool o.t) (.bool o.f) (.slice none o.s.length 0)) (KSp _ D5) (λhHeldz=> ?_);clear hK K;refine sm ?_;refine vH 8 ?_ ?_;refine wpAnyH_done ag ?_ _;go_wp2;refine bodyPost_ret (v:=.tuple #[gv o none 0,.bool true]) pI rfl ⟨HO.out,?_⟩;exact bo D5.2.2.2.2.2.2.1 aa
  |false=>
   have ewr:wr=oh:=pH;subst ewr;refine vH 3 ?_ ?_;refine vH 4 ?_ ?_;refine wpAnyH_ready (rs:=[5]) ag ah ?_;refine AllReadyH.cons rfl (λK hK=> ?_) AllReadyH.nil;go_simp;refine(HOh.out _).mono ?_;rintro e w6 ⟨rfl,hb6⟩;have D6:=D5.call hb6;refine hK.out _ _ (KS _ D6) (λhHeld6=> ?_);clear hK K hb6 D5;refine sm ?_;refine vH 6 ?_ ?_;obtain⟨⟨r0,r1,r2,r3,r4,r5,r6⟩,rz⟩:=id D6.2.2.1;simp only[Nat.zero_add] at r0 r1 r2 r3 r4 r5 r6;simp only[bC] at r0 r1 r2 r3 r4 r5 r6;have fz:=D6.2.2.2.1.1;have zo:=D6.2.2.2.2.2.2.2;refine wpAnyH_ready (rs:=[7]) ag ah ?_;refine AllReadyH.cons rfl (λK hK=> ?_) AllReadyH.nil;go_simp;refine hK.out _ (Go.Proofs.YtmapdpcfanecdabGreatDoor.gV w6 (w.heap.size+1+1) (.bool o.n) (.bool o.sp.n) (.int .i64 o.sp.lo) (.int .i64 o.sp.hi) (.bool o.t) (.bool o.f) (.slice none o.s.length 0)) (KSp _ D6) (λhHeldz=> ?_);clear hK K;refine sm ?_;refine vH 8 ?_ ?_;refine wpAnyH_done ag ?_ _;go_wp2;refine bodyPost_ret (v:=.tuple #[gv o none 0,.bool wr]) pI rfl ⟨HO.out,?_⟩;exact bo D6.2.2.2.2.2.2.1 aa):p:=h
theorem Mt (w:World)(g:Gs)(ss:oA)(gc:Nat)(h:Gs)(st:oA)(hc:Nat):
  Calls pG 115 #[I .i64 10,gv g ss gc,gv h st hc] w λe w'=>e=Rt (if ap g=true then Tu #[gv noneG nO 0,Bb false] else Tu #[gv ⟨false,⟨true,0,0⟩,cF g,b8 g,[]⟩ nO 0,Bb false])/\bl w w':=by
 have HT:=ae (λw=>rv g ss gc w);generalize b8 g=yy at *;generalize cF g=no at *;generalize hnn:ap g=nn;have Hnn:=ae hnn;clear hnn;have HNg:=ae (λw=>bL g ss gc w);have HNh:=ae (λw=>bL h st hc w);generalize ap g=ng at *;generalize ap h=nh at *;go_enter Tryz.func115,Tryz.ntmps115;go_upto_region 1 with fail
 go_cut [8] (λt wy=>∃ob,t=Pp (sO ⟨ob,0,nO⟩)/\DG w g ss gc h st hc ob noneG wy)
 case first=>
  go_wp2_with fail;refine(cZ _).mono ?_;rintro e w1 ⟨rfl,hb1⟩;have D1:=kD hb1;go_wp2_with fail;go_meet;refine⟨w1.heap.size,rfl,?_⟩;exact D1
 obtain⟨ob,rfl,D1⟩:=hcut;obtain⟨⟨g0,g1,g2,g3,g4,g5,g6⟩,gz⟩:=id D1.1;simp only[j0] at g0 g1 g2 g3 g4 g5 g6;obtain⟨⟨k0,k1,k2,k3,k4,k5,k6⟩,kz⟩:=id D1.2.1;simp only[j0] at k0 k1 k2 k3 k4 k5 k6;have fz:=D1.2.2.2.1.1;have fo:=D1.2.2.2.2.2.1.1;have zo:=D1.2.2.2.2.2.2.2;go_upto_region 2 with fail
 go_cut [27] (λt wy=>t=Bb nn/\DG w g ss gc h st hc ob noneG wy)
 case first=>
  go_wp2_with fail;refine(HNg.out _).mono ?_;rintro e w2 ⟨rfl,hb2⟩;have D2:=D1.call hb2;clear g0 g1 g2 g3 g4 g5 g6 gz k0 k1 k2 k3 k4 k5 k6 kz fz fo;cases ng with
  |true=>
   go_wp2_with fail;go_meet;exact⟨by rw[<-Hnn.out];first|done|rfl|simp,D2⟩
  |false=>
   go_wp2_with fail;go_meet;exact⟨by rw[<-Hnn.out];first|done|rfl|simp,D2⟩
 obtain⟨rfl,D2⟩:=hcut;clear g0 g1 g2 g3 g4 g5 g6 gz k0 k1 k2 k3 k4 k5 k6 kz fz fo zo D1 HNg HNh Hnn;cases nn with
 |true=>
  obtain⟨⟨g0,g1,g2,g3,g4,g5,g6⟩,gz⟩:=id D2.1;simp only[j0] at g0 g1 g2 g3 g4 g5 g6;obtain⟨⟨r0,r1,r2,r3,r4,r5,r6⟩,rz⟩:=id D2.2.2.1;simp only[j0] at r0 r1 r2 r3 r4 r5 r6;obtain⟨⟨o0,o1,o2,o3,o4,o5,o6⟩,oz⟩:=id D2.2.2.2.2.1;simp only[j0] at o0 o1 o2 o3 o4 o5 o6;simp only[bC] at r0 r1 r2 r3 r4 r5 r6;have fz:=D2.2.2.2.1.1;have fo:=D2.2.2.2.2.2.1.1;have zo:=D2.2.2.2.2.2.2.2;simp only[noneG] at o0 o1 o2 o3 o4 o5 o6;go_wp2;refine bodyPost_ret (v:=Tu #[gv noneG nO 0,Bb false]) lZ rfl ⟨?_,?_⟩
  ·rfl
  ·exact bo D2.2.2.2.2.2.2.1 aa
 |false=>
  obtain⟨⟨g0,g1,g2,g3,g4,g5,g6⟩,gz⟩:=id D2.1;simp only[j0] at g0 g1 g2 g3 g4 g5 g6;have fz:=D2.2.2.2.1.1;have fo:=D2.2.2.2.2.2.1.1;have zo:=D2.2.2.2.2.2.2.2;go_wp2_with fail;refine(HT.out _).mono ?_;rintro e w3 ⟨rfl,hb3⟩;have D3:=D2.call hb3;clear hb3 D2 g0 g1 g2 g3 g4 g5 g6 gz fz fo zo;obtain⟨⟨r0,r1,r2,r3,r4,r5,r6⟩,rz⟩:=id D3.2.2.1;simp only[j0] at r0 r1 r2 r3 r4 r5 r6;obtain⟨⟨o0,o1,o2,o3,o4,o5,o6⟩,oz⟩:=id D3.2.2.2.2.1;simp only[j0] at o0 o1 o2 o3 o4 o5 o6;simp only[bC] at r0 r1 r2 r3 r4 r5 r6;have fz:=D3.2.2.2.1.1;have fo:=D3.2.2.2.2.2.1.1;have zo:=D3.2.2.2.2.2.2.2;simp only[noneG] at o0 o1 o2 o3 o4 o5 o6;have hne:ob≠w.heap.size+1+1:=aa;go_wp2;refine bodyPost_ret (v:=Tu #[gv ⟨false,⟨true,0,0⟩,no,yy,[]⟩ nO 0,Bb false]) g8 rfl ⟨?_,?_⟩
  ·rfl
  ·exact bo ((D3.2.2.2.2.2.2.1.setCell an _).setCell an _) aa
end
section
open Go.RowKit
attribute [local go_sem ↓] Go.wp_at_zero Go.wp_at_succ
theorem Tryz.info_alarm:(Tryz.prog.info? 62).map (λi=>(i.zero,i.size,i.bytes))=sO (sO (Ag #[I .i64 0,I .i64 0]),2,16):=ag
def alC (A:List (Int×Int)):List Value:=A.flatMap λa=>[I .i64 a.1,I .i64 a.2]
theorem y7 (A:List (Int×Int))(a:Int×Int):alC A++[I .i64 a.1,I .i64 a.2]=alC (A++[a]):=by
 unfold alC;rw[List.flatMap_append];simp
def AlmAt (W:World)(ab tb:Nat)(A:List (Int×Int)):Prop:=∃v,Cells W ab [v]/\W.ownsRow (ab+1) 62 2 v A.length (alC A)/\v.ownBlock≠sO tb
theorem AlmAt.call {W W':World}{ab tb:Nat}{A:List (Int×Int)}(h:AlmAt W ab tb A)(hb:bl W W'):AlmAt W' ab tb A:=by
 obtain⟨v,h1,h2,h3⟩:=h;exact⟨v,h1.call hb,ci h2 (λk hk=>hb.block k (h2.lt k hk).2),h3⟩
theorem AlmAt.new {W:World}{ab tb:Nat}{A:List (Int×Int)}(h:AlmAt W ab tb A):AlmAt W ab W.heap.size A:=by
 obtain⟨v,h1,h2,h3⟩:=h;exact⟨v,h1,h2,λe=>by have:=(h2.lt _ e).2;omega⟩
def bY (A:List (Int×Int))(k:Int)(kind:Int)(b:Bool):List (Int×Int):=if b then A++[(k,kind)] else A
def kO (c:lI)(L:List Pic)(A:List (Int×Int))(k:Nat):List (Int×Int):=bY (bY (bY A k 1 (aA (bK c k) k (bm L k)).2.1) k 2 (aA (bK c k) k (bm L k)).2.2) k 3 (bm L k).none
def aO (c:lI)(L:List Pic)(k:Nat):List (Int×Int):=(q8 k).foldl (kO c L) []
theorem gS {c:lI}{L:List Pic}{k:Nat}:aO c L (k+1)=kO c L (aO c L k) k:=by unfold aO;rw[z6,q7];rfl
theorem gi {A:List (Int×Int)}{k kind:Int}{b:Bool}:(bY A k kind b).length<=A.length+1:=by unfold bY;split<;>simp
theorem fS {c:lI}{L:List Pic}:∀{k:Nat},(aO c L k).length<=3 * k
 |0=>lR _
 |k+1=>by
  rw[gS];have h:=fS (c:=c) (L:=L) (k:=k);unfold kO;have a1:=gi (A:=aO c L k) (k:=k) (kind:=1) (b:=(aA (bK c k) k (bm L k)).2.1);have a2:=gi (A:=bY (aO c L k) k 1 (aA (bK c k) k (bm L k)).2.1) (k:=k) (kind:=2) (b:=(aA (bK c k) k (bm L k)).2.2);have a3:=gi (A:=bY (bY (aO c L k) k 1 (aA (bK c k) k (bm L k)).2.1) k 2 (aA (bK c k) k (bm L k)).2.2) (k:=k) (kind:=3) (b:=(bm L k).none);omega
theorem oy (kind k:Int)(b:Bool)(ab tb:Nat)(A:List (Int×Int))(w:World)(hA:AlmAt w ab tb A)(hne:ab≠tb)(hT:Cells w tb [I .i64 k])(hl:A.length<=1000):
  Calls pG 54 #[I .i64 kind,Bb b,Pp (sO ⟨ab,0,nO⟩),Pp (sO ⟨tb,0,nO⟩)] w λe w'=>(∃v,e=Rt v)/\AlmAt w' ab tb (bY A k kind b)/\Below ab w w'/\Cells w' tb [I .i64 k]:=by
 obtain⟨ti,hi,hz0,hz1,hz2⟩:=info_parts Tryz.info_alarm;obtain⟨v,hV,hO,hvt⟩:=id hA;have hab:=hV.2.1;cases b with
 |false=>
  have HA:=ae hA;clear hA hV hO;go_enter Tryz.func54,Tryz.ntmps54;go_wp2;go_end0;exact⟨⟨_,rfl⟩,HA.out,bR _ _,hT⟩
 |true=>
  have S4:=hO.kept (j3 w (Cc #[I .i64 k,I .i64 kind] 62) nO) (by cases e:v.ownBlock with|none=>exact .inl rfl|some q=>exact .inr ah);have v0:=hV.1 0 _ rfl;have t0:=hT.1 0 _ rfl;have HT:=ae hT;have HV:=ae hV;have HO:=ae hO;have HVT:=ae hvt;clear hvt;have hform:∃a m cp,v=U a m cp:=by
   rcases hO.2 with⟨h,_⟩|⟨g,cp,_,h,_⟩
   ·exact⟨_,_,_,h⟩
   ·exact⟨_,_,_,h⟩
  obtain⟨va,vm,vcp,ev⟩:=hform;subst ev;clear hA hV hO hT;go_enter Tryz.func54,Tryz.ntmps54;go_wp2_with (at_builtin;refine aZ _ rfl _ _ 55 rfl (ab+1) 62 ti (Ag #[I .i64 0,I .i64 0]) 2 16 Tryz.underlying55 hi hz0 hz1 hz2 rfl aj _ _ _ rfl S4 (sO ⟨w.heap.size,0,nO⟩) 1 1 [I .i64 k,I .i64 kind] rfl rfl (λh=>aX) ?qa2 ?qa3 ?qa4 ?qa5 ?qa6 ?_)
  case qa2=>exact gT w 62 [I .i64 k,I .i64 kind]
  case qa3=>intro u hu;simp at hu;rcases hu with rfl|rfl<;>rfl
  case qa4=>unfold maxLen;omega
  case qa5=>omega
  case qa6=>rw[zA];omega
  intro v' w4 hown hgrow hat;have hz:(w.alloc (Cc #[I .i64 k,I .i64 kind] 62)).heap.size=w.heap.size+1:=zA _ _;have hz4:=hgrow.size;have hnv:(Value.slice va vm vcp).ownBlock≠sO ab:=λh=>by have:=(HO.out.lt ab h).1;omega
  have hV4:Cells w4 ab [U va vm vcp]:=HV.out.same ((hgrow.block ab aa (λe=>hnv e.symm)).trans (Below.heap_alloc _ _ _ hab)) aa;have hB4:Below ab w w4:=((bR ab w).alloc aa _).grown hgrow aa (λq hq=>by have:=(HO.out.lt q hq).1;omega)
  have hfm':∃a m cp,v'=U a m cp:=by
   rcases hown.2 with⟨h,_⟩|⟨g,cp,_,h,_⟩
   ·exact⟨_,_,_,h⟩
   ·exact⟨_,_,_,h⟩
  obtain⟨ua,um,ucp,eu⟩:=hfm';subst eu;have HOW:=ae hown;have HAT:=ae hat;have HGR:=ae hgrow;clear hown hat S4 v0 t0 hgrow;have v0:=hV4.1 0 _ rfl;have vf:=hV4.2.2 0;go_wp2;obtain⟨wq,ewq⟩:∃q,q=bw w4 ab 0 [U ua um ucp]:=⟨_,rfl⟩;have PQ:=bM hV4 0 _ ewq;simp only[bw] at ewq;rw[<-ewq];first|go_end0|refine bodyPost_ret (results_none rfl _ _ _) rfl ?_
  have hlt:=λq (hq:(Value.slice ua um ucp).ownBlock=sO q)=>HOW.out.lt q hq;have htz:=HT.out.2.1;refine⟨⟨_,rfl⟩,⟨_,PQ.cells,?_,λe=> ?_⟩,PQ.low (lR _) hB4,?_⟩
  ·show wq.ownsRow _ _ _ _ (A++[(k,kind)]).length (alC (A++[(k,kind)]))
   rw[<-y7,q9];exact ci HOW.out λq hq=>PQ.far q (by have:=(hlt q hq).1;omega)
  ·rcases HAT.out with h|h
   ·exact HVT.out (h.symm.trans e)
   ·rw[h] at e;cases e;omega
  ·exact(HT.out.same ((HGR.out.block tb aa (λe=>HVT.out e.symm)).trans (Below.heap_alloc _ _ _ htz)) aa).same (PQ.far tb (Ne.symm hne)) PQ.size
end
end Go.Proofs.YtmapdpcfanecdabGreatDoor
