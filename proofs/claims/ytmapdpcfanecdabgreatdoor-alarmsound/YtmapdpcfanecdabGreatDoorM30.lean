import Derived.Test.YtmapdpcfanecdabGreatDoorM28
import Derived.Test.YtmapdpcfanecdabGreatDoorM19
open Go.Ending renaming returned→Rt
open Go.IntKind renaming i64→Y
open Go.Obj renaming cells→Cc
open Go.Proofs.Tryz renaming prog→pG
open Go.RowKit.Below renaming refl→bR
open Go.Value renaming agg→Ag,bool→Bb,int→I,ownBlock→j0,pointer→Pp,slice→U
open Go.World renaming grownBy_alloc→j2,ownsRow_lit→q1,size_alloc→zA
open List renaming getElem?_append_right→q0,getElem?_set→j3,getElem_set_ne→j7,length_set→j6,replicate→j1,replicate_succ'→j9
open Nat renaming le_refl→lR,le_trans→lT,lt_of_lt_of_le→lL,zero_add→j5,zero_le→j8
open Option renaming none→nO,some→j4,some→sO
set_option linter.unusedSimpArgs false
set_option linter.unusedVariables false
set_option maxHeartbeats 16000000
set_option maxRecDepth 20000
namespace Go.Proofs.YtmapdpcfanecdabGreatDoor
section
open Go.RowKit
attribute [local go_sem ↓] Go.wp_at_zero Go.wp_at_succ
theorem bM {V F:Int}{c:List Ins}(h:ai V F c=0):(1≤V∧V≤8)∧(0≤F∧F≤3)∧c.length≤60:=by
 unfold ai at h
 split at h
 ·cases h
 ·rename_i h3
  split at h
  ·cases h
  ·rename_i h60
   simp[btw] at h3
   exact⟨⟨by omega,by omega⟩,⟨by omega,by omega⟩,by omega⟩
def XsAt (w:World)(ls:Option Addr)(L:List Pic):Prop:=
 ∀i (h:i < L.length),∃b off,ls=sO ⟨b,off,nO⟩∧b < w.heap.size∧∃vs vc fs fc,(w.cell? ⟨b,off+i * 3,nO⟩=sO (Bb L[i].none)∧w.cell? ⟨b,off+i * 3+1,nO⟩=sO (U vs L[i].vars.length vc)∧w.cell? ⟨b,off+i * 3+2,nO⟩=sO (U fs L[i].flds.length fc))∧PicAt w L[i] vs fs∧(L[i].vars.length≤vc∧vc≤maxLen)∧(L[i].flds.length≤fc∧fc≤maxLen)
theorem XsAt.below {B:Nat}{w w':World}{ls:Option Addr}{L:List Pic}(h:XsAt w ls L)(hb:Below B w w')(hB:w.heap.size≤B):XsAt w' ls L:=by
 intro i hi
 obtain⟨b,off,e,hz,vs,vc,fs,fc,⟨h0,h1,h2⟩,hP,hQ⟩:=h i hi
 exact⟨b,off,e,lL hz hb.size,vs,vc,fs,fc,⟨by rw[hb.cell (by simp only;omega)];exact h0,by rw[hb.cell (by simp only;omega)];exact h1,by rw[hb.cell (by simp only;omega)];exact h2⟩,hP.below hb hB,hQ⟩
theorem yM (V F:Int)(c:List Ins)(L:List Pic)(k:Nat)(h:k < L.length):cy V F c (L.drop k)=if aK V F c L[k]=0 then cy V F c (L.drop (k+1)) else aK V F c L[k]:=by
 rw[List.drop_eq_getElem_cons h]
 rfl
end
section
open Go.RowKit Go
def PRow (S:Nat→Prop)(W:World)(pb:Nat)(L:List Pic):Prop:=∃cs,Cells W pb cs∧L.length * 3≤cs.length∧∀i (h:i < L.length),∃vs vc fs fc,(cs[i * 3]? =sO (Bb L[i].none)∧cs[i * 3+1]? =sO (U vs L[i].vars.length vc)∧cs[i * 3+2]? =sO (U fs L[i].flds.length fc))∧PicOn S W L[i] vs fs∧(L[i].vars.length≤vc∧vc≤maxLen)∧(L[i].flds.length≤fc∧fc≤maxLen)
def DRow (W:World)(db:Nat)(D:List Int):Prop:=∃cs,Cells W db cs∧D.length≤cs.length∧∀i (h:i < D.length),cs[i]? =sO (I Y D[i])
section
variable {S:Nat→Prop} {W W':World} {pb db:Nat} {L:List Pic} {D:List Int}
theorem PRow.xs (h:PRow S W pb L):XsAt W (sO ⟨pb,0,nO⟩) L:=λi hi=>by
 obtain⟨cs,hc,hz,h⟩:=h
 obtain⟨vs,vc,fs,fc,⟨h0,h1,h2⟩,hp,hq⟩:=h i hi
 refine⟨pb,0,rfl,hc.2.1,vs,vc,fs,fc,⟨?_,?_,?_⟩,hp.at,hq⟩
 ·rw[j5];exact hc.1 _ _ h0
 ·rw[j5];exact hc.1 _ _ h1
 ·rw[j5];exact hc.1 _ _ h2
theorem PRow.far (h:PRow S W pb L)(hp:W'.heap[pb]? =W.heap[pb]?)(hs:∀b,S b→b < W.heap.size→W'.heap[b]? =W.heap[b]?)(hz:W.heap.size≤W'.heap.size):PRow S W' pb L:=by
 obtain⟨cs,hc,hl,h⟩:=h
 refine⟨cs,hc.same hp hz,hl,λi hi=> ?_⟩
 obtain⟨vs,vc,fs,fc,h0,hp,hq⟩:=h i hi
 exact⟨vs,vc,fs,fc,h0,(hp.same hs hz).mono λb hb _=>hb.1,hq⟩
theorem PRow.call (h:PRow S W pb L)(hb:Below W.heap.size W W'):PRow S W' pb L:=h.far (hb.block pb h.choose_spec.1.2.1) (λb _ hlt=>hb.block b hlt) hb.size
theorem DRow.far (h:DRow W db D)(hp:W'.heap[db]? =W.heap[db]?)(hz:W.heap.size≤W'.heap.size):DRow W' db D:=by
 obtain⟨cs,hc,h⟩:=h
 exact⟨cs,hc.same hp hz,h⟩
theorem DRow.call (h:DRow W db D)(hb:Below W.heap.size W W'):DRow W' db D:=h.far (hb.block db h.choose_spec.1.2.1) hb.size
theorem DRow.get (h:DRow W db D){k:Nat}(hk:k < D.length):W.cell? ⟨db,k,nO⟩=sO (I Y D[k]):=by
 obtain⟨cs,hc,hz,h⟩:=h
 exact hc.1 _ _ (h k hk)
theorem PRow.cell (h:PRow S W pb L){k:Nat}(hk:k < L.length):∃vs vc fs fc,(W.cell? ⟨pb,k * 3,nO⟩=sO (Bb L[k].none)∧W.cell? ⟨pb,k * 3+1,nO⟩=sO (U vs L[k].vars.length vc)∧W.cell? ⟨pb,k * 3+2,nO⟩=sO (U fs L[k].flds.length fc))∧PicOn S W L[k] vs fs∧(L[k].vars.length≤vc∧vc≤maxLen)∧(L[k].flds.length≤fc∧fc≤maxLen)∧pb < W.heap.size∧∀j,W.frozen? ⟨pb,j,nO⟩=false:=by
 obtain⟨cs,hc,hz,h⟩:=h
 obtain⟨vs,vc,fs,fc,⟨h0,h1,h2⟩,hp,hv,hf⟩:=h k hk
 exact⟨vs,vc,fs,fc,⟨hc.1 _ _ h0,hc.1 _ _ h1,hc.1 _ _ h2⟩,hp,hv,hf,hc.2⟩
theorem PRow.put (h:PRow S W pb L)(hS:∀b,S b→b≠pb){k:Nat}(hk:k < L.length){y:Pic}{vs fs:Option Addr}{vc fc:Nat}(hy:PicOn S W y vs fs)(hv:y.vars.length≤vc∧vc≤maxLen)(hf:y.flds.length≤fc∧fc≤maxLen)(e:W'=cu W pb (k * 3) [Bb y.none,U vs y.vars.length vc,U fs y.flds.length fc]):
  PRow S W' pb (L.set k y)∧(∀q,q≠pb→W'.heap[q]? =W.heap[q]?)∧W.heap.size≤W'.heap.size∧∀{B:Nat} {a:World},B≤pb→Below B a W→Below B a W':=by
 obtain⟨cs,hc,hz,h⟩:=h
 have P:=gP hc (k * 3) _ e (by simp;omega)
 refine⟨⟨_,P.cells,?_,λi hi=> ?_⟩,P.far,P.size,P.low⟩
 ·simp[iQ];omega
 ·rw[j6] at hi
  by_cases ek:k=i
  ·subst ek
   refine⟨vs,vc,fs,fc,?_,?_,?_,?_⟩
   ·rw[List.getElem_set_self]
    simp only[iQ,j3,j6]
    refine⟨?_,?_,?_⟩
    ·rw[if_neg (by omega),if_neg (by omega),if_pos trivial,if_pos (by omega)]
    ·rw[if_neg (by omega),if_pos trivial,if_pos (by omega)]
    ·rw[if_pos trivial,if_pos (by omega)]
   ·simpa using(hy.same (λb hb _=>P.far b (hS b hb)) P.size).mono λb hb _=>hb.1
   ·simpa using hv
   ·simpa using hf
  ·obtain⟨vs',vc',fs',fc',⟨h0,h1,h2⟩,hp,hq⟩:=h i hi
   refine⟨vs',vc',fs',fc',?_,?_,?_⟩
   ·rw[j7 ek]
    refine⟨?_,?_,?_⟩
    ·rw[←h0];simp only[iQ,j3];repeat rw[if_neg (by omega)]
    ·rw[←h1];simp only[iQ,j3];repeat rw[if_neg (by omega)]
    ·rw[←h2];simp only[iQ,j3];repeat rw[if_neg (by omega)]
   ·rw[j7 ek]
    exact(hp.same (λb hb _=>P.far b (hS b hb)) P.size).mono λb hb _=>hb.1
   ·rw[j7 ek];exact hq
theorem DRow.put (h:DRow W db D){k:Nat}{v:Int}(e:W'=cu W db k [I Y v])(hk:k < D.length):
  DRow W' db (D.set k v)∧(∀q,q≠db→W'.heap[q]? =W.heap[q]?)∧W.heap.size≤W'.heap.size∧∀{B:Nat} {a:World},B≤db→Below B a W→Below B a W':=by
 obtain⟨cs,hc,hz,h⟩:=h
 have P:=gP hc k _ e (by simp;omega)
 refine⟨⟨_,P.cells,?_,λi hi=> ?_⟩,P.far,P.size,P.low⟩
 ·simpa[iQ] using hz
 ·rw[j6] at hi
  simp only[iQ,j3,List.getElem_set]
  by_cases ek:k=i
  ·subst ek
   rw[if_pos rfl,if_pos (by omega),if_pos rfl]
  ·rw[if_neg ek,if_neg ek]
   exact h i hi
end
end
section
open Go.RowKit
attribute [local go_sem ↓] Go.wp_at_zero Go.wp_at_succ
theorem Tryz.info_pic:(Tryz.prog.info? 28).map (λi=>(i.zero,i.size,i.bytes))=sO (sO (Ag #[Bb false,U nO 0 0,U nO 0 0]),3,56):=by kernel_rfl
theorem Tryz.info_intV:(Tryz.prog.info? 3).map (λi=>(i.zero,i.size,i.bytes))=sO (sO (I Y 0),1,8):=by kernel_rfl
def npC:List Value:=[Bb true,U nO 0 0,U nO 0 0]
def iT (x:Pic)(vs:Option Addr)(vc:Nat)(fs:Option Addr)(fc k:Nat):List Value:=[Bb x.none,U vs x.vars.length vc,U fs x.flds.length fc]++(j1 k npC).flatten
def kR (k:Nat):List Value:=I Y 1::j1 k (I Y 0)
theorem Ah {x:Pic}{vs:Option Addr}{vc:Nat}{fs:Option Addr}{fc k:Nat}:iT x vs vc fs fc k++npC=iT x vs vc fs fc (k+1):=by
 unfold iT
 rw[List.append_assoc,j9,List.flatten_append]
 rfl
theorem Af {k:Nat}:kR k++[I Y 0]=kR (k+1):=by
 unfold kR
 rw[j9]
 rfl
theorem Kb {k i j:Nat}(hi:i < k)(hj:j < 3):(j1 k npC).flatten[i * 3+j]? =npC[j]? :=by
 induction k generalizing i with
 |zero=>omega
 |succ k ih=>
  rw[List.replicate_succ,List.flatten_cons]
  cases i with
  |zero=>rw[List.getElem?_append_left (by simp[npC];omega)];simp
  |succ i=>
   rw[q0 (by simp[npC];omega)]
   have e:(i+1) * 3+j - npC.length=i * 3+j:=by simp[npC];omega
   rw[e]
   exact ih (by omega)
theorem uf {W:World}{B z g k cap:Nat}{e:TypeId}{xs:List Value}(h:W.ownsRow B e z (U (sO ⟨g,0,nO⟩) k cap) k xs):Cells W g xs:=by
 have hl:=h.1
 refine⟨λj v hj=> ?_,(h.lt g rfl).2,λj=>h.frozenAt j⟩
 have:j < xs.length:=by
  apply Decidable.byContradiction
  intro hn
  rw[List.getElem?_eq_none (by omega)] at hj
  cases hj
 rw[h.cellAt j (by omega)]
 exact hj
theorem BP (W:World):PicAt W nonePic nO none:=⟨λi hi=>absurd hi (by simp[nonePic]),λi hi=>absurd hi (by simp[nonePic])⟩
theorem EB {w W:World}{B g k cap:Nat}{e:TypeId}{x:Pic}{vs:Option Addr}{vc:Nat}{fs:Option Addr}{fc:Nat}(h:W.ownsRow B e 3 (U (sO ⟨g,0,nO⟩) (k+1) cap) (k+1) (iT x vs vc fs fc k))(hb:Below w.heap.size w W)(hx:PicAt w x vs fs)(h1:x.vars.length≤vc∧vc≤maxLen)(h2:x.flds.length≤fc∧fc≤maxLen):PRow (λb=>b < w.heap.size) W g (x::j1 k nonePic):=by
 refine⟨_,uf h,by rw[h.1];simp,λi hi=> ?_⟩
 cases i with
 |zero=>exact⟨vs,vc,fs,fc,⟨rfl,rfl,rfl⟩,λw2 h2 hz=>hx.same (λb hlt=>(h2 b hlt (lL hlt hb.size)).trans (hb.block b hlt)) (lT hb.size hz),h1,h2⟩
 |succ i=>
  have hi':i < k:=by simpa using hi
  have ex:(x::j1 k nonePic)[i+1]=nonePic:=by simp
  rw[ex]
  have q:∀j,j < 3→(iT x vs vc fs fc k)[(i+1) * 3+j]? =npC[j]? :=λj hj=>by
   unfold iT
   rw[q0 (by simp;omega)]
   have e:(i+1) * 3+j - [Value.bool x.none,U vs x.vars.length vc,U fs x.flds.length fc].length=i * 3+j:=by simp;omega
   rw[e]
   exact Kb hi' hj
  exact⟨nO,0,nO,0,⟨q 0 (by omega),q 1 (by omega),q 2 (by omega)⟩,λw2 _ _=>BP w2,⟨lR _,j8 _⟩,⟨lR _,j8 _⟩⟩
theorem Ew {W:World}{B g k cap:Nat}{e:TypeId}(h:W.ownsRow B e 1 (U (sO ⟨g,0,nO⟩) (k+1) cap) (k+1) (kR k)):DRow W g (1::j1 k 0):=by
 refine⟨_,uf h,by rw[h.1];simp,λi hi=> ?_⟩
 cases i with
 |zero=>rfl
 |succ i=>
  have hi':i < k:=by simpa using hi
  simp[kR,hi']
structure NewAt (w:World) (V F:Int) (s:Option Addr) (c:List Ins) (cap:Nat) (x:Pic) (vs:Option Addr) (vc:Nat) (fs:Option Addr) (fc:Nat) (i j pb pc db dc:Nat) (W:World):Prop where
 st:Cells W (w.heap.size+1+1+1+1) [I Y V,I Y F,U s c.length cap,U (sO ⟨pb,0,nO⟩) (i+1) pc,U (sO ⟨db,0,nO⟩) (j+1) dc]
 pr:W.ownsRow (w.heap.size+1+1) 28 3 (U (sO ⟨pb,0,nO⟩) (i+1) pc) (i+1) (iT x vs vc fs fc i)
 dr:W.ownsRow (w.heap.size+1+1) 3 1 (U (sO ⟨db,0,nO⟩) (j+1) dc) (j+1) (kR j)
 ne:pb≠db∧pb≠w.heap.size+1+1+1+1∧db≠w.heap.size+1+1+1+1
 lo:Below w.heap.size w W
 sz:w.heap.size+1+1+1+1 < W.heap.size
theorem pK (w:World)(t:TypeId)(cs:List Value):∀ad,sO (⟨w.heap.size,0,nO⟩:Addr)=sO ad→∀j u,cs[j]? =sO u→(w.alloc (Cc cs.toArray t)).cell? (ad.add j)=sO u:=by
 intro ad e j u hj
 cases e
 have pl:(⟨w.heap.size,0,nO⟩:Addr).add j=⟨w.heap.size,j,nO⟩:=by unfold Addr.add;split<;>simp_all
 rw[pl]
 exact(Cells.new w t cs).1 j u hj
theorem NewAt.growP {w W W4:World}{V F:Int}{s:Option Addr}{c:List Ins}{cap:Nat}{x:Pic}{vs:Option Addr}{vc:Nat}{fs:Option Addr}{fc i j pb pc db dc:Nat}{O:Obj}{v':Value}(N:NewAt w V F s c cap x vs vc fs fc i j pb pc db dc W)(hown:W4.ownsRow (w.heap.size+1+1) 28 3 v' (i+1+1) (iT x vs vc fs fc i++npC))(hgrow:(W.alloc O).grownBy W4 (sO pb))(hat:v'.ownBlock=sO pb∨v'.ownBlock=sO (W.alloc O).heap.size):
  ∃g cp,v'=U (sO ⟨g,0,nO⟩) (i+1+1) cp∧Cells W4 (w.heap.size+1+1+1+1) [I Y V,I Y F,U s c.length cap,U (sO ⟨pb,0,nO⟩) (i+1) pc,U (sO ⟨db,0,nO⟩) (j+1) dc]∧∀wq,wq=cu W4 (w.heap.size+1+1+1+1) 3 [v']→NewAt w V F s c cap x vs vc fs fc (i+1) j g cp db dc wq:=by
 have N':=N
 obtain⟨n1,n2,n3,n4,n5,n6⟩:=N
 have hdb:=n3.lt db rfl
 have hpb:=n2.lt pb rfl
 have hz:(W.alloc O).heap.size=W.heap.size+1:=zA _ _
 have hz4:=hgrow.size
 have far:∀b,b < W.heap.size→b≠pb→W4.heap[b]? =W.heap[b]? :=λb hb hne=>(hgrow.block b (by omega) (λe=>hne (by cases e;rfl))).trans (Below.heap_alloc _ _ _ hb)
 have st4:=n1.same (far _ n6 (Ne.symm n4.2.1)) (by omega)
 have dr4:=(n3.kept (j2 W O nO) (.inr (by simp[j0]))).kept hgrow (.inr (λe=>n4.1 (by cases e;rfl)))
 have lo4:Below w.heap.size w W4:=(n5.alloc (by omega) O).grown hgrow (by omega) (λk hk=>by cases hk;omega)
 rcases hown.2 with⟨_,h⟩|⟨g,cp,cur,rfl,-⟩
 ·omega
 have hg:=hown.lt g rfl
 have hgn:g≠db∧g≠w.heap.size+1+1+1+1:=by
  rcases hat with h|h
  ·simp only[j0,j4.injEq] at h
   rw[h];exact⟨n4.1,n4.2.1⟩
  ·simp only[j0,j4.injEq] at h
   rw[h,hz];exact⟨by omega,by omega⟩
 refine⟨g,cp,rfl,st4,λwq e=> ?_⟩
 have PQ:=gP st4 3 _ e
 refine⟨PQ.cells,?_,?_,⟨hgn.1,hgn.2,n4.2.2⟩,PQ.low (by omega) lo4,by have:=PQ.size;omega⟩
 ·rw[Ah] at hown
  exact aw hown (λk hk=>by cases hk;exact PQ.far _ hgn.2)
 ·exact aw dr4 (λk hk=>by cases hk;exact PQ.far _ n4.2.2)
theorem NewAt.growD {w W W4:World}{V F:Int}{s:Option Addr}{c:List Ins}{cap:Nat}{x:Pic}{vs:Option Addr}{vc:Nat}{fs:Option Addr}{fc i j pb pc db dc:Nat}{O:Obj}{v':Value}(N:NewAt w V F s c cap x vs vc fs fc i j pb pc db dc W)(hown:W4.ownsRow (w.heap.size+1+1) 3 1 v' (j+1+1) (kR j++[I Y 0]))(hgrow:(W.alloc O).grownBy W4 (sO db))(hat:v'.ownBlock=sO db∨v'.ownBlock=sO (W.alloc O).heap.size):
  ∃g cp,v'=U (sO ⟨g,0,nO⟩) (j+1+1) cp∧Cells W4 (w.heap.size+1+1+1+1) [I Y V,I Y F,U s c.length cap,U (sO ⟨pb,0,nO⟩) (i+1) pc,U (sO ⟨db,0,nO⟩) (j+1) dc]∧∀wq,wq=cu W4 (w.heap.size+1+1+1+1) 4 [v']→NewAt w V F s c cap x vs vc fs fc i (j+1) pb pc g cp wq:=by
 obtain⟨n1,n2,n3,n4,n5,n6⟩:=N
 have hdb:=n3.lt db rfl
 have hpb:=n2.lt pb rfl
 have hz:(W.alloc O).heap.size=W.heap.size+1:=zA _ _
 have hz4:=hgrow.size
 have far:∀b,b < W.heap.size→b≠db→W4.heap[b]? =W.heap[b]? :=λb hb hne=>(hgrow.block b (by omega) (λe=>hne (by cases e;rfl))).trans (Below.heap_alloc _ _ _ hb)
 have st4:=n1.same (far _ n6 (Ne.symm n4.2.2)) (by omega)
 have pr4:=(n2.kept (j2 W O nO) (.inr (by simp[j0]))).kept hgrow (.inr (λe=>n4.1 (by cases e;rfl)))
 have lo4:Below w.heap.size w W4:=(n5.alloc (by omega) O).grown hgrow (by omega) (λk hk=>by cases hk;omega)
 rcases hown.2 with⟨_,h⟩|⟨g,cp,cur,rfl,-⟩
 ·omega
 have hg:=hown.lt g rfl
 have hgn:pb≠g∧g≠w.heap.size+1+1+1+1:=by
  rcases hat with h|h
  ·simp only[j0,j4.injEq] at h
   rw[h];exact⟨n4.1,n4.2.2⟩
  ·simp only[j0,j4.injEq] at h
   rw[h,hz];exact⟨by omega,by omega⟩
 refine⟨g,cp,rfl,st4,λwq e=> ?_⟩
 have PQ:=gP st4 4 _ e
 refine⟨PQ.cells,?_,?_,⟨hgn.1,n4.2.1,hgn.2⟩,PQ.low (by omega) lo4,by have:=PQ.size;omega⟩
 ·exact aw pr4 (λk hk=>by cases hk;exact PQ.far _ n4.2.1)
 ·rw[Af] at hown
  exact aw hown (λk hk=>by cases hk;exact PQ.far _ hgn.2)
def It (w:World)(V F:Int)(s:Option Addr)(c:List Ins)(cap:Nat)(x:Pic)(e:Ending)(w':World):Prop:=∃pb pc db dc,e=Rt (Pp (sO ⟨w.heap.size+1+1+1+1,0,nO⟩))∧Cells w' (w.heap.size+1+1+1+1) [I Y V,I Y F,U s c.length cap,U (sO ⟨pb,0,nO⟩) (c.length+1) pc,U (sO ⟨db,0,nO⟩) (c.length+1) dc]∧PRow (λb=>b < w.heap.size) w' pb (x::j1 c.length nonePic)∧DRow w' db (1::j1 c.length 0)∧(w.heap.size≤pb∧w.heap.size≤db)∧(pb≠db∧pb≠w.heap.size+1+1+1+1∧db≠w.heap.size+1+1+1+1)∧Below w.heap.size w w'
theorem FF (V F:Int)(s:Option Addr)(c:List Ins)(cap:Nat)(x:Pic)(vs:Option Addr)(vc:Nat)(fs:Option Addr)(fc:Nat)(w:World)(hx:PicAt w x vs fs)(h1:x.vars.length≤vc∧vc≤maxLen)(h2:x.flds.length≤fc∧fc≤maxLen)(h60:c.length≤60):
  Calls pG 48 #[pv V F s c cap,xv x vs vc fs fc] w λe w'=>It w V F s c cap x e w':=by
 obtain⟨ti,hi,hz0,hz1,hz2⟩:=info_parts Tryz.info_pic
 obtain⟨tk,hk,hx0,hx1,hx2⟩:=info_parts Tryz.info_intV
 have HX:=aa hx
 clear hx
 have N0:NewAt w V F s c cap x vs vc fs fc 0 0 (w.heap.size+1+1) 1 (w.heap.size+1+1+1) 1 (((((w.alloc (Cc #[I Y V,I Y F,U s c.length cap] 24)).alloc (Cc #[Bb x.none,U vs x.vars.length vc,U fs x.flds.length fc] 28)).alloc (Cc #[Bb x.none,U vs x.vars.length vc,U fs x.flds.length fc] 28)).alloc (Cc #[I Y 1] 3)).alloc (Cc #[I Y V,I Y F,U s c.length cap,U (sO ⟨w.heap.size+1+1,0,nO⟩) 1 1,U (sO ⟨w.heap.size+1+1+1,0,nO⟩) 1 1] 106)):=by
  have B:Below w.heap.size w (((((w.alloc (Cc #[I Y V,I Y F,U s c.length cap] 24)).alloc (Cc #[Bb x.none,U vs x.vars.length vc,U fs x.flds.length fc] 28)).alloc (Cc #[Bb x.none,U vs x.vars.length vc,U fs x.flds.length fc] 28)).alloc (Cc #[I Y 1] 3)).alloc (Cc #[I Y V,I Y F,U s c.length cap,U (sO ⟨w.heap.size+1+1,0,nO⟩) 1 1,U (sO ⟨w.heap.size+1+1+1,0,nO⟩) 1 1] 106)):=by go_grown
  refine⟨?_,?_,?_,⟨by omega,by omega,by omega⟩,B,by simp⟩
  ·have h:=Cells.new (((((w.alloc (Cc #[I Y V,I Y F,U s c.length cap] 24)).alloc (Cc #[Bb x.none,U vs x.vars.length vc,U fs x.flds.length fc] 28)).alloc (Cc #[Bb x.none,U vs x.vars.length vc,U fs x.flds.length fc] 28)).alloc (Cc #[I Y 1] 3))) 106 [I Y V,I Y F,U s c.length cap,U (sO ⟨w.heap.size+1+1,0,nO⟩) 1 1,U (sO ⟨w.heap.size+1+1+1,0,nO⟩) 1 1]
   rw[zA,zA,zA,zA] at h
   exact h
  ·have h:=q1 (base:=w.heap.size+1+1) (e:=28) (size:=3) ((w.alloc (Cc #[I Y V,I Y F,U s c.length cap] 24)).alloc (Cc #[Bb x.none,U vs x.vars.length vc,U fs x.flds.length fc] 28)) #[Bb x.none,U vs x.vars.length vc,U fs x.flds.length fc] 1 (by simp) (by decide) rfl
   rw[zA,zA] at h
   exact(h.kept (j2 _ _ nO) (.inr (by simp[j0]))).kept (j2 _ _ nO) (.inr (by simp[j0]))
  ·have h:=q1 (base:=w.heap.size+1+1) (e:=3) (size:=1) (((w.alloc (Cc #[I Y V,I Y F,U s c.length cap] 24)).alloc (Cc #[Bb x.none,U vs x.vars.length vc,U fs x.flds.length fc] 28)).alloc (Cc #[Bb x.none,U vs x.vars.length vc,U fs x.flds.length fc] 28)) #[I Y 1] 1 (by simp) (by decide) rfl
   rw[zA,zA,zA] at h
   exact h.kept (j2 _ _ nO) (.inr (by simp[j0]))
 have P0:Cells (((((w.alloc (Cc #[I Y V,I Y F,U s c.length cap] 24)).alloc (Cc #[Bb x.none,U vs x.vars.length vc,U fs x.flds.length fc] 28)).alloc (Cc #[Bb x.none,U vs x.vars.length vc,U fs x.flds.length fc] 28)).alloc (Cc #[I Y 1] 3)).alloc (Cc #[I Y V,I Y F,U s c.length cap,U (sO ⟨w.heap.size+1+1,0,nO⟩) 1 1,U (sO ⟨w.heap.size+1+1+1,0,nO⟩) 1 1] 106)) w.heap.size [I Y V,I Y F,U s c.length cap]:=(Cells.new w _ [_,_,_]).call (by go_grown)
 go_enter Tryz.func48,Tryz.ntmps48
 go_upto_region 2 with fail
 generalize ((((w.alloc (Cc #[I Y V,I Y F,U s c.length cap] 24)).alloc (Cc #[Bb x.none,U vs x.vars.length vc,U fs x.flds.length fc] 28)).alloc (Cc #[Bb x.none,U vs x.vars.length vc,U fs x.flds.length fc] 28)).alloc (Cc #[I Y 1] 3)).alloc (Cc #[I Y V,I Y F,U s c.length cap,U (sO ⟨w.heap.size+1+1,0,nO⟩) 1 1,U (sO ⟨w.heap.size+1+1+1,0,nO⟩) 1 1] 106)=w5 at *
 have p2:=P0.1 2 _ rfl
 go_wp2
 clear p2 P0
 go_loopw [15] (λi wr=>∃k pb pc db dc:Nat,k≤c.length∧i=I Y k∧Hid (NewAt w V F s c cap x vs vc fs fc k k pb pc db dc wr)) (λi _=>c.length - (intOf i).toNat)
 case atStart=>exact⟨0,_,_,_,_,j8 _,rfl,N0⟩
 case round=>
  clear N0
  obtain⟨k,pb,pc,db,dc,hk1,rfl,HN⟩:=hrel
  by_cases hlt:k < c.length
  rotate_left
  ·have n1:¬(k:Int) < (c.length:Int):=by omega
   have ek:k=c.length:=by omega
   subst ek
   go_wp2
   go_ret
   have N:=HN.out
   have h1':=N.pr.lt pb rfl
   have h2':=N.dr.lt db rfl
   exact⟨pb,pc,db,dc,rfl,N.st,EB N.pr N.lo HX.out h1 h2,Ew N.dr,⟨by omega,by omega⟩,N.ne,N.lo⟩
  have n0:(0:Int)≤(k:Int):=by omega
  have n1:(k:Int) < (c.length:Int):=by omega
  have q3:=HN.out.st.1 3 _ rfl
  have S4:=HN.out.pr.kept (j2 wr (Cc #[Bb true,U nO 0 0,U nO 0 0] 28) nO) (.inr (by simp[j0]))
  have zw:=HN.out.sz
  go_wp2_with (at_builtin;refine cj _ rfl _ _ 47 rfl (w.heap.size+1+1) 28 ti (Ag #[Bb false,U nO 0 0,U nO 0 0]) 3 56 Tryz.underlying47 hi hz0 hz1 hz2 rfl (by decide) _ _ _ rfl S4 (sO ⟨wr.heap.size,0,nO⟩) 1 1 npC rfl rfl (λh=>by cases h) ?qa2 ?qa3 ?qa4 ?qa5 ?qa6 ?_)
  case qa2=>exact pK wr 28 npC
  case qa3=>intro u hu;simp[npC] at hu;rcases hu with rfl|rfl<;>rfl
  case qa4=>unfold maxLen;omega
  case qa5=>omega
  case qa6=>rw[zA];omega
  intro v' w4 hown hgrow hat
  obtain⟨g,cp,rfl,ST4,HNX⟩:=HN.out.growP hown hgrow (by rw[zA];exact hat)
  have HNX:=aa HNX
  clear hown hgrow hat S4 q3 HN zw
  have q3:=ST4.1 3 _ rfl
  have q3f:=ST4.2.2 3
  go_upto_region 5 with fail
  obtain⟨wq,ewq⟩:∃q,q=cu w4 (w.heap.size+1+1+1+1) 3 [U (sO ⟨g,0,nO⟩) (k+1+1) cp]:=⟨_,rfl⟩
  have N5:=aa (HNX.out wq ewq)
  simp only[cu] at ewq
  rw[←ewq]
  clear ewq HNX q3 q3f ST4
  have q4:=N5.out.st.1 4 _ rfl
  have S4:=N5.out.dr.kept (j2 wq (Cc #[I Y 0] 3) nO) (.inr (by simp[j0]))
  have zw:=N5.out.sz
  go_wp2_with (at_builtin;refine cj _ rfl _ _ 34 rfl (w.heap.size+1+1) 3 tk (I Y 0) 1 8 Tryz.underlying34 hk hx0 hx1 hx2 rfl (by decide) _ _ _ rfl S4 (sO ⟨wq.heap.size,0,nO⟩) 1 1 [I Y 0] rfl rfl (λh=>by cases h) ?qb2 ?qb3 ?qb4 ?qb5 ?qb6 ?_)
  case qb2=>exact pK wq 3 [I Y 0]
  case qb3=>intro u hu;simp at hu;rw[hu];rfl
  case qb4=>unfold maxLen;omega
  case qb5=>omega
  case qb6=>rw[zA];omega
  intro v' w6 hown hgrow hat
  obtain⟨g2,cp2,rfl,ST4,HNX⟩:=N5.out.growD hown hgrow (by rw[zA];exact hat)
  have HNX:=aa HNX
  clear hown hgrow hat S4 q4 N5 zw
  have q4:=ST4.1 4 _ rfl
  have q4f:=ST4.2.2 4
  go_upto_region 6 with fail
  obtain⟨wz,ewz⟩:∃q,q=cu w6 (w.heap.size+1+1+1+1) 4 [U (sO ⟨g2,0,nO⟩) (k+1+1) cp2]:=⟨_,rfl⟩
  have N6:=aa (HNX.out wz ewz)
  simp only[cu] at ewz
  rw[←ewz]
  clear ewz HNX q4 q4f ST4
  go_wp2
  go_roundw
  case rel=>exact⟨k+1,g,cp,g2,cp2,by omega,by go_num,N6.out⟩
  case measure=>simp[intOf];omega
theorem Tryz.info_alarm:(Tryz.prog.info? 62).map (λi=>(i.zero,i.size,i.bytes))=sO (sO (Ag #[I Y 0,I Y 0]),2,16):=by kernel_rfl
def alC (A:List (Int×Int)):List Value:=A.flatMap λa=>[I Y a.1,I Y a.2]
theorem Fz (A:List (Int×Int))(a:Int×Int):alC A++[I Y a.1,I Y a.2]=alC (A++[a]):=by
 unfold alC
 rw[List.flatMap_append]
 simp
def AlmAt (W:World)(ab tb:Nat)(A:List (Int×Int)):Prop:=∃v,Cells W ab [v]∧W.ownsRow (ab+1) 62 2 v A.length (alC A)∧v.ownBlock≠sO tb
theorem AlmAt.call {W W':World}{ab tb:Nat}{A:List (Int×Int)}(h:AlmAt W ab tb A)(hb:Below W.heap.size W W'):AlmAt W' ab tb A:=by
 obtain⟨v,h1,h2,h3⟩:=h
 exact⟨v,h1.call hb,aw h2 (λk hk=>hb.block k (h2.lt k hk).2),h3⟩
theorem AlmAt.new {W:World}{ab tb:Nat}{A:List (Int×Int)}(h:AlmAt W ab tb A):AlmAt W ab W.heap.size A:=by
 obtain⟨v,h1,h2,h3⟩:=h
 exact⟨v,h1,h2,λe=>by have:=(h2.lt _ e).2;omega⟩
def dP (A:List (Int×Int))(k:Int)(kind:Int)(b:Bool):List (Int×Int):=if b then A++[(k,kind)] else A
def kO (c:List Ins)(L:List Pic)(A:List (Int×Int))(k:Nat):List (Int×Int):=dP (dP (dP A k 1 (aA (aO c k) k (aU L k)).2.1) k 2 (aA (aO c k) k (aU L k)).2.2) k 3 (aU L k).none
def aG (c:List Ins)(L:List Pic)(k:Nat):List (Int×Int):=(List.range k).foldl (kO c L) []
theorem gL {c:List Ins}{L:List Pic}{k:Nat}:aG c L (k+1)=kO c L (aG c L k) k:=by unfold aG;rw[List.range_succ,List.foldl_append];rfl
theorem kB {A:List (Int×Int)}{k kind:Int}{b:Bool}:(dP A k kind b).length≤A.length+1:=by unfold dP;split<;>simp
theorem fV {c:List Ins}{L:List Pic}:∀{k:Nat},(aG c L k).length≤3 * k
 |0=>lR _
 |k+1=>by
  rw[gL]
  have h:=fV (c:=c) (L:=L) (k:=k)
  unfold kO
  have a1:=kB (A:=aG c L k) (k:=k) (kind:=1) (b:=(aA (aO c k) k (aU L k)).2.1)
  have a2:=kB (A:=dP (aG c L k) k 1 (aA (aO c k) k (aU L k)).2.1) (k:=k) (kind:=2) (b:=(aA (aO c k) k (aU L k)).2.2)
  have a3:=kB (A:=dP (dP (aG c L k) k 1 (aA (aO c k) k (aU L k)).2.1) k 2 (aA (aO c k) k (aU L k)).2.2) (k:=k) (kind:=3) (b:=(aU L k).none)
  omega
theorem nZ (kind k:Int)(b:Bool)(ab tb:Nat)(A:List (Int×Int))(w:World)(hA:AlmAt w ab tb A)(hne:ab≠tb)(hT:Cells w tb [I Y k])(hl:A.length≤1000):
  Calls pG 54 #[I Y kind,Bb b,Pp (sO ⟨ab,0,nO⟩),Pp (sO ⟨tb,0,nO⟩)] w λe w'=>(∃v,e=Rt v)∧AlmAt w' ab tb (dP A k kind b)∧Below ab w w'∧Cells w' tb [I Y k]:=by
 obtain⟨ti,hi,hz0,hz1,hz2⟩:=info_parts Tryz.info_alarm
 obtain⟨v,hV,hO,hvt⟩:=id hA
 have hab:=hV.2.1
 cases b with
 |false=>
  have HA:=aa hA
  clear hA hV hO
  go_enter Tryz.func54,Tryz.ntmps54
  go_wp2
  go_end0
  exact⟨⟨_,rfl⟩,HA.out,bR _ _,hT⟩
 |true=>
  have S4:=hO.kept (j2 w (Cc #[I Y k,I Y kind] 62) nO) (by cases e:v.ownBlock with|none=>exact .inl rfl|some q=>exact .inr (by simp))
  have v0:=hV.1 0 _ rfl
  have t0:=hT.1 0 _ rfl
  have HT:=aa hT
  have HV:=aa hV
  have HO:=aa hO
  have HVT:=aa hvt
  clear hvt
  have hform:∃a m cp,v=U a m cp:=by
   rcases hO.2 with⟨h,_⟩|⟨g,cp,_,h,_⟩
   ·exact⟨_,_,_,h⟩
   ·exact⟨_,_,_,h⟩
  obtain⟨va,vm,vcp,ev⟩:=hform
  subst ev
  clear hA hV hO hT
  go_enter Tryz.func54,Tryz.ntmps54
  go_wp2_with (at_builtin;refine cj _ rfl _ _ 55 rfl (ab+1) 62 ti (Ag #[I Y 0,I Y 0]) 2 16 Tryz.underlying55 hi hz0 hz1 hz2 rfl (by decide) _ _ _ rfl S4 (sO ⟨w.heap.size,0,nO⟩) 1 1 [I Y k,I Y kind] rfl rfl (λh=>by cases h) ?qa2 ?qa3 ?qa4 ?qa5 ?qa6 ?_)
  case qa2=>exact pK w 62 [I Y k,I Y kind]
  case qa3=>intro u hu;simp at hu;rcases hu with rfl|rfl<;>rfl
  case qa4=>unfold maxLen;omega
  case qa5=>omega
  case qa6=>rw[zA];omega
  intro v' w4 hown hgrow hat
  have hz:(w.alloc (Cc #[I Y k,I Y kind] 62)).heap.size=w.heap.size+1:=zA _ _
  have hz4:=hgrow.size
  have hnv:(Value.slice va vm vcp).ownBlock≠sO ab:=λh=>by have:=(HO.out.lt ab h).1;omega
  have hV4:Cells w4 ab [U va vm vcp]:=HV.out.same ((hgrow.block ab (by omega) (λe=>hnv e.symm)).trans (Below.heap_alloc _ _ _ hab)) (by omega)
  have hB4:Below ab w w4:=((bR ab w).alloc (by omega) _).grown hgrow (by omega) (λq hq=>by have:=(HO.out.lt q hq).1;omega)
  have hfm':∃a m cp,v'=U a m cp:=by
   rcases hown.2 with⟨h,_⟩|⟨g,cp,_,h,_⟩
   ·exact⟨_,_,_,h⟩
   ·exact⟨_,_,_,h⟩
  obtain⟨ua,um,ucp,eu⟩:=hfm'
  subst eu
  have HOW:=aa hown
  have HAT:=aa hat
  have HGR:=aa hgrow
  clear hown hat S4 v0 t0 hgrow
  have v0:=hV4.1 0 _ rfl
  have vf:=hV4.2.2 0
  go_wp2
  obtain⟨wq,ewq⟩:∃q,q=cu w4 ab 0 [U ua um ucp]:=⟨_,rfl⟩
  have PQ:=gP hV4 0 _ ewq
  simp only[cu] at ewq
  rw[←ewq]
  first|go_end0|refine bodyPost_ret (results_none rfl _ _ _) rfl ?_
  have hlt:=λq (hq:(Value.slice ua um ucp).ownBlock=sO q)=>HOW.out.lt q hq
  have htz:=HT.out.2.1
  refine⟨⟨_,rfl⟩,⟨_,PQ.cells,?_,λe=> ?_⟩,PQ.low (lR _) hB4,?_⟩
  ·show wq.ownsRow _ _ _ _ (A++[(k,kind)]).length (alC (A++[(k,kind)]))
   rw[←Fz,List.length_append]
   exact aw HOW.out λq hq=>PQ.far q (by have:=(hlt q hq).1;omega)
  ·rcases HAT.out with h|h
   ·exact HVT.out (h.symm.trans e)
   ·rw[h] at e;cases e;omega
  ·exact(HT.out.same ((HGR.out.block tb (by omega) (λe=>HVT.out e.symm)).trans (Below.heap_alloc _ _ _ htz)) (by omega)).same (PQ.far tb (Ne.symm hne)) PQ.size
end
end Go.Proofs.YtmapdpcfanecdabGreatDoor
