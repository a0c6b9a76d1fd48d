import Derived.Test.YtmapdpcfanecdabGreatDoorM07
import Derived.Deep.DeepCutAuto
import Derived.Laws.MakeOwn
import Derived.Laws.CopyOwn
open Go.Ending renaming returned→Rt
open Go.IntKind renaming i64→Y
open Go.Obj renaming cells→Cc
open Go.Proofs.Tryz renaming prog→pG
open Go.Value renaming agg→Ag,bool→Bb,cells→j2,int→I,slice→U,tuple→Tu
open Go.World renaming cell?→j7,size_alloc→zA
open List renaming getElem?_eq_some_iff→j5,getElem_replicate→j6,replicate→j0
open Nat renaming le_refl→lR,le_trans→lT,min→j1,min_le_left→j8,min_le_right→j3,zero_add→j4
open Option renaming none→nO,some→sO
set_option linter.unusedSimpArgs false
set_option linter.unusedVariables false
set_option maxHeartbeats 8000000
set_option maxRecDepth 10000
namespace Go.Proofs.YtmapdpcfanecdabGreatDoor
section
open Go.RowKit
attribute [local go_sem ↓] Go.wp_at_zero Go.wp_at_succ
theorem Av (n:Nat)(x:Gc):(aH (j0 n x)).length=n * 7:=by rw[kW,List.length_replicate]
theorem pA (a b:Nat)(x:Gc):aH (j0 a x)++aH (j0 b x)=aH (j0 (a+b) x):=by rw[←ij,List.replicate_append_replicate]
theorem pt (m n:Nat)(x:Gc)(h:m≤n)(j:Nat)(u:Value)(hj:(aH (j0 m x))[j]? =sO u):(aH (j0 n x))[j]? =sO u:=by
 obtain⟨d,rfl⟩:∃d,n=m+d:=⟨n - m,by omega⟩
 rw[←pA,List.getElem?_append_left (j5.1 hj).1]
 exact hj
theorem uK (l:List Gc):∀u∈aH l,u.oneCell'=true:=by
 intro u hu
 obtain⟨x,hx,hu⟩:=List.mem_flatMap.1 hu
 exact iN x u hu
def Filled (w:World)(b n k:Nat)(x:Gc):Prop:=k≤n∧∃cs:List Value,w.heap[b]? =sO (Cc cs.toArray 91 (0,0))∧cs.length=n * 7∧cs.take (k * 7)=aH (j0 k x)
theorem Filled.lt {w:World}{b n k:Nat}{x:Gc}(h:Filled w b n k x):b < w.heap.size:=by
 obtain⟨_,cs,h1,_⟩:=h
 exact(Array.getElem?_eq_some_iff.1 h1).1
theorem Filled.copy {P:Program}{w:World}{b n k:Nat}{x:Gc}(h:Filled w b n k x)(dT ty:TypeId)(a:Addr)(sLen sCap dCap m:Nat)(hu:P.underlying dT=sO (.slice 91))(hs:(P.info? 91).map (·.size)=sO 7)(hm:m=j1 sLen (n - k))
  (hsrc:∀j v,(aH (j0 m x))[j]? =sO v→w.cell? (a.add j)=sO v):
  ∃w',(Builtin.copy_ #[dT,dT] ty #[U (sO ⟨b,k * 7,nO⟩) (n - k) dCap,U (sO a) sLen sCap]).run P w=.ok (goInt m) w'∧Filled w' b n (k+m) x∧∀B w0,B≤b→Below B w0 w→Below B w0 w':=by
 obtain⟨hk,cs,h1,h2,h3⟩:=h
 have hmn:m≤n - k:=by rw[hm];exact j3 _ _
 have hl:(aH (j0 m x)).length=m * 7:=Av m x
 have hfit:k * 7+m * 7≤n * 7:=by omega
 refine⟨w.setRow b (cs.take (k * 7)++aH (j0 m x)++cs.drop (k * 7+(aH (j0 m x)).length)).toArray,?_,?_,λB w0 hB hb=>below_setRow hb hB _⟩
 ·have e:=vo w dT dT ty 91 b (k * 7) (n - k) dCap a sLen sCap 7 cs.toArray 91 (aH (j0 m x)) hu hs h1 (by rw[hl,hm]) hsrc (by rw[hl];simpa[h2] using hfit) (uK _)
  rw[←hm] at e
  exact e
 ·refine⟨by omega,cs.take (k * 7)++aH (j0 m x)++cs.drop (k * 7+(aH (j0 m x)).length),?_,?_,?_⟩
  ·exact setRow_heap w b cs.toArray _ _ _ h1
  ·simp only[List.length_append,List.length_take,List.length_drop,hl,h2]
   omega
  ·rw[h3,pA]
   exact List.take_left' (by rw[Av])
theorem Filled.gets {w:World}{b n:Nat}{g:Gs}(hs:g.s=[])(h:Filled w b n n ⟨g,nO,0⟩):GsIn (λk=>k=b) w (sO ⟨b,0,nO⟩) (j0 n g):=by
 have hz:=h.lt
 obtain⟨_,cs,h1,h2,h3⟩:=h
 rw[List.take_of_length_le (by omega)] at h3
 subst h3
 intro i hi
 have hin:i < n:=by simpa using hi
 have hc:∀j,j < 7→w.cell? ⟨b,i * 7+j,nO⟩=(bC ⟨g,nO,0⟩)[j]? :=λj hj=>by
  have e:=eI (j0 n (⟨g,nO,0⟩:Gc)) i (by simpa using hin) j hj
  rw[j6] at e
  rw[←e]
  simp[j7,h1]
 refine⟨b,0,rfl,rfl,nO,0,⟨?_,hz⟩,.inl (by simp[hs]),by simp[hs],by unfold maxLen;omega⟩
 simp only[j6,j4]
 exact⟨hc 0 (by omega),hc 1 (by omega),hc 2 (by omega),hc 3 (by omega),hc 4 (by omega),hc 5 (by omega),hc 6 (by omega)⟩
theorem yr (g:Gs)(hs0:g.s=[])(n:Nat)(h8:n≤8)(b:Nat)(w:World)(hg:GuAt w b 0 g nO 0):
  Calls pG 129 #[U (sO ⟨b,0,nO⟩) 1 1,I Y (n:Int)] w λe w'=>(∃rs,e=Rt (U rs n n)∧GsIn (λb=>w.heap.size≤b) w' rs (j0 n g))∧Below w.heap.size w w':=by
 obtain⟨ti,hi,hz0,hz1,hz2⟩:=info_parts Tryz.info_guess
 have HMU:Hid (Calls pG 187 #[.int .u64 1,.int .u64 (n:Int)] w λe w'=>e=Rt (Tu #[.int .u64 0,.int .u64 (n:Int)])∧w'=w):=by
  refine(Tryz.bits_Mul 1 n (by omega) (by omega) w).mono ?_
  rintro e w1 ⟨rfl,rfl⟩
  refine⟨?_,rfl⟩
  have e1:1 * n / 18446744073709551616=0:=by omega
  have e2:1 * n % 18446744073709551616=n:=by omega
  rw[e1,e2]
  rfl
 have HMK:=run_makeSlice (P:=pG) w 25 91 ti (Ag #[Bb false,Bb false,I Y 0,I Y 0,Bb false,Bb false,U nO 0 0]) Tryz.underlying25 hi hz0 .i64 .i64 (n:Int) (n:Int) (by omega) (Int.le_refl _) (by rw[hz1];omega) (by rw[hz2];omega) (by omega)
 rw[Int.toNat_natCast,hz1] at HMK
 have F0:Filled (w.alloc (Cc (madeCells (j2 (Ag #[Bb false,Bb false,I Y 0,I Y 0,Bb false,Bb false,U nO 0 0])) (n * 7)) 91)) w.heap.size n 0 ⟨g,nO,0⟩:=by
  refine⟨Nat.zero_le _,(madeCells (j2 (Ag #[Bb false,Bb false,I Y 0,I Y 0,Bb false,Bb false,U nO 0 0])) (n * 7)).toList,heap_alloc_new _ _,by simp[size_madeCells],by simp[aH]⟩
 have hb0:Below w.heap.size w (w.alloc (Cc (madeCells (j2 (Ag #[Bb false,Bb false,I Y 0,I Y 0,Bb false,Bb false,U nO 0 0])) (n * 7)) 91)):=by go_grown
 have G0:=hg.alloc (Cc (madeCells (j2 (Ag #[Bb false,Bb false,I Y 0,I Y 0,Bb false,Bb false,U nO 0 0])) (n * 7)) 91)
 have hns:¬(n:Int) < 0:=by omega
 have N1:(n:Int)≤9223372036854775807:=by omega
 obtain⟨w2,HR,F2,HB2⟩:=F0.copy (P:=pG) 25 3 ⟨b,0,nO⟩ 1 1 n (j1 1 n) Tryz.underlying25 (by rw[hi];exact congrArg sO hz1) (by simp) (λj v hj=>by
  have hj':=pt (j1 1 n) 1 ⟨g,nO,0⟩ (j8 _ _) j v hj
  have e1:aH (j0 1 (⟨g,nO,0⟩:Gc))=bC ⟨g,nO,0⟩:=by simp[aH]
  rw[e1] at hj'
  obtain⟨⟨g0,g1,g2,g3,g4,g5,g6⟩,-⟩:=G0
  rw[Addr.add_lit]
  have hj7:j < 7:=by have:=(j5.1 hj').1;rwa [dY] at this
  rw[←hj']
  rcases (show j=0∨j=1∨j=2∨j=3∨j=4∨j=5∨j=6 by omega) with rfl|rfl|rfl|rfl|rfl|rfl|rfl
  ·exact g0
  ·exact g1
  ·exact g2
  ·exact g3
  ·exact g4
  ·exact g5
  ·exact g6)
 have hb2:=HB2 w.heap.size w (lR _) hb0
 simp only[Nat.zero_mul,Nat.sub_zero,j4] at HR F2
 clear HB2 F0 hb0 G0
 generalize w.alloc (Cc (madeCells (j2 (Ag #[Bb false,Bb false,I Y 0,I Y 0,Bb false,Bb false,U nO 0 0])) (n * 7)) 91)=wA at *
 have HNM:n≤1→j1 1 n=n:=λh=>Nat.min_eq_right h
 have HM1:j1 1 n≤n:=j3 _ _
 have HM2:1≤n→j1 1 n=1:=λh=>Nat.min_eq_left h
 have m0:n=0∨1≤j1 1 n:=by by_cases h:n=0;exact .inl h;exact .inr (by rw[HM2 (by omega)];exact lR _)
 clear HNM HM2
 generalize j1 1 n=m at *
 go_enter Tryz.func129,Tryz.ntmps129
 go_wp2_with (go_at_call 187;fail)
 refine HMU.out.mono ?_
 rintro e w1 ⟨rfl,rfl⟩
 clear HMU
 go_wp2
 clear HR HMK
 go_loopw [8] (λi wr=>∃k:Nat,k≤n∧(n=0∨1≤k)∧i=I Y (k:Int)∧Filled wr w1.heap.size n k ⟨g,nO,0⟩∧Below w1.heap.size w1 wr) (λi _=>n - (intOf i).toNat)
 case atStart=>exact⟨m,HM1,m0,rfl,F2,hb2⟩
 case round=>
  clear F2 hb2 HM1 m0
  obtain⟨k,hk,hk0,rfl,FK,BK⟩:=hrel
  have FD:Filled wr.drew w1.heap.size n k ⟨g,nO,0⟩:=FK
  have BD:=BK.drew
  by_cases hlt:k < n
  ·have hk1:1≤k:=by omega
   have n0:(0:Int)≤(k:Int):=by omega
   have n1:(k:Int) < (n:Int):=by omega
   have n2:(k:Int)≤(n:Int):=by omega
   obtain⟨w3,HR,F3,HB3⟩:=FD.copy (P:=pG) 25 3 ⟨w1.heap.size,0,nO⟩ k n (n - k) (j1 k (n - k)) Tryz.underlying25 (by rw[hi];exact congrArg sO hz1) rfl (λj v hj=>by
    obtain⟨_,cs,c1,c2,c3⟩:=FD
    have hj':=pt (j1 k (n - k)) k ⟨g,nO,0⟩ (j8 _ _) j v hj
    rw[←c3,List.getElem?_take] at hj'
    split at hj'
    ·rw[Addr.add_lit,j4]
     simp[j7,c1,hj']
    ·cases hj')
   have B3:=HB3 w1.heap.size w1 (lR _) BD
   have hm1:1≤j1 k (n - k):=Nat.le_min.2 ⟨hk1,by omega⟩
   have hm2:j1 k (n - k)≤n - k:=j3 _ _
   have HR':=aa HR
   clear HR HB3 FK BK FD BD
   generalize j1 k (n - k)=q at *
   have HS1:∀wx,(Instr.sliceAt 25 (U (sO ⟨w1.heap.size,0,nO⟩) n n) (sO (I Y (k:Int))) nO nO).run pG wx=.ok (U (sO ⟨w1.heap.size,k * 7,nO⟩) (n - k) (n - k)) wx:=by
    intro wx
    simp[go_sem]
    rw[if_pos (by omega),if_neg (by omega)]
   have HS2:∀wx,(Instr.sliceAt 25 (U (sO ⟨w1.heap.size,0,nO⟩) n n) nO (sO (I Y (k:Int))) nO).run pG wx=.ok (U (sO ⟨w1.heap.size,0,nO⟩) k n) wx:=by
    intro wx
    simp[go_sem]
    intro h
    omega
   go_upto_region 9 with fail
   refine au (S:=λ_=>True) [] (by kernel_rfl) trivial (λhHeld=> ?_)
   refine vZ 0 ?_ ?_
   refine vZ 1 ?_ ?_
   refine vZ 2 ?_ ?_
   refine vZ 3 ?_ ?_
   refine vZ 4 ?_ ?_
   refine vZ 5 ?_ ?_
   refine vZ 6 ?_ ?_
   refine an (i:=7) rfl (by kernel_rfl) (λK hK=> ?_)
   refine Lib.wp_copy_run _ _ _ 25 25 rfl _ _ rfl rfl HR'.out ?_
   refine hK.out _ _ trivial (λhHeld=> ?_)
   clear hK K
   refine sm ?_
   refine vZ 8 ?_ ?_
   refine vZ 9 ?_ ?_
   refine aq (by kernel_rfl) ?_ _
   clear HS1 HS2 HR'
   have EW:IntKind.i64.wrap ((k:Int)+(q:Int))=((k+q:Nat):Int):=by rw[IntKind.wrap_i64];omega
   rw[EW]
   clear EW
   go_wp2
   go_roundw
   case rel=>exact⟨k+q,by omega,.inr (by omega),by go_num,F3,B3⟩
   case measure=>simp[intOf];omega
  ·have n1:¬(k:Int) < (n:Int):=by omega
   have ek:k=n:=by omega
   subst ek
   go_wp2
   go_ret
   exact⟨⟨_,rfl,(FK.gets hs0).mono λb h _=>by omega⟩,BK⟩
theorem vQ (g:Gs)(hs0:g.s=[])(n:Nat)(h8:n≤8)(w:World):
  Calls pG 78 #[Ag #[Bb g.n,Bb g.sp.n,I Y g.sp.lo,I Y g.sp.hi,Bb g.t,Bb g.f,U nO 0 0],I Y (n:Int)] w λe w'=>(∃rs,e=Rt (U rs n n)∧GsIn (λb=>w.heap.size≤b) w' rs (j0 n g))∧Below w.heap.size w w':=by
 have hl0:g.s.length=0:=by rw[hs0];rfl
 have G1:=GuAt.new (w.alloc (Cc #[Bb g.n,Bb g.sp.n,I Y g.sp.lo,I Y g.sp.hi,Bb g.t,Bb g.f,U nO g.s.length 0] 91)) g nO 0
 rw[hl0,zA] at G1
 have HR:=aa (yr g hs0 n h8 _ _ G1)
 clear G1
 have hb1:Below w.heap.size w ((w.alloc (Cc #[Bb g.n,Bb g.sp.n,I Y g.sp.lo,I Y g.sp.hi,Bb g.t,Bb g.f,U nO 0 0] 91)).alloc (Cc #[Bb g.n,Bb g.sp.n,I Y g.sp.lo,I Y g.sp.hi,Bb g.t,Bb g.f,U nO 0 0] 91)):=by go_grown
 go_enter Tryz.func78,Tryz.ntmps78
 go_wp2_with (go_at_call 129;fail)
 refine HR.out.mono ?_
 rintro e w2 ⟨⟨rs,rfl,GV⟩,hb2⟩
 go_wp2
 go_ret
 exact⟨⟨rs,rfl,GV.mono λb h _=>lT hb1.size h⟩,hb1.trans (hb2.mono hb1.size)⟩
end
end Go.Proofs.YtmapdpcfanecdabGreatDoor
