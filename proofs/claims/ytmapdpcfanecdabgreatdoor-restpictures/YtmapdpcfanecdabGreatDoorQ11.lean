import Derived.Test.YtmapdpcfanecdabGreatDoorQ10
import Derived.Sort.OwnSortedInts
import Derived.Lib.RowBridge
import Derived.Test.YtmapdpcfanecdabGreatDoorQ09
import Derived.Lib.SliceRun
open List renaming length→X,Pairwise→X6,append_nil→Z7,drop_eq_getElem_cons→Q6,drop_eq_nil_of_le→Q7,eq_nil_of_length_eq_zero→J8,flatMap_append→Z3,getElem?_eq_some_iff→Z8,getElem_append_left→X4,getElem_mem→gM,getElem_of_mem→Q2,length_append→x6,length_eq_zero_iff→Q8,length_map→X1,length_nil→X2,length_replicate→X0,map_append→j8,map_cons→j6,map_nil→j7,mem_append→z9,mem_cons→j3,mem_cons_of_mem→J9,mem_cons_self→Q5,mem_map→z7,mem_singleton→J5,nil_append→z8,not_mem_nil→Q3,pairwise_append→X5,pairwise_cons→j4,replicate→x7,take_length→Z9,take_succ_eq_append_getElem→Q9
open Array renaming size→R,getElem?_eq_some_iff→J6
open Go.World renaming heap→M,cell?_of_block→q7,cell?_setCell_other→x8,ownsRow_made→q9,setCell→J7,size_alloc→j0,size_alloc→zA
open Go.Ending renaming returned→Rt
open Go.IntKind renaming i64→Y
open Go.Obj renaming cells→A
open Go.Proofs.Tryz renaming prog→pG
open Go.RowKit.Below renaming heap_setCell→hSe,refl→bR
open Go.Value renaming agg→Ag,int→I,ownBlock→J4,pointer→Pp,slice→U,slice→q8,string→x9,tuple→Tu,bool→O
open Int renaming eq_ofNat_of_zero_le→j9,toNat_natCast→j2
open Nat renaming le_refl→lR,le_trans→lT,lt_irrefl→Q1,lt_of_lt_of_le→lL,zero_add→j5,zero_le→j1
open Option renaming isSome_iff_exists→q6,some→sO,none→E,some→G
open Go.RowKit renaming Below→n4
open Go renaming Value→mh,World→kl,World→C
open Bool renaming true→W5,false→d
set_option linter.all false
open Go.Proofs.Tryz
set_option maxHeartbeats 16000000
set_option maxRecDepth 100000
namespace Go.Proofs.YtmapdpcfanecdabGreatDoor
variable (v:Nat)(V k F x:Int){w w0 w':C}(f:Nat)(s:oA){a:Option Nat}{B b n:Nat}(c:lI){e:TypeId}(len cap:Nat)(g:Gs)(is:oA)(u m:Nat)(r:St){P:Program}(ins:List Int)(ls vs ss:oA)(L:List Gs)(i lc vc gc:Nat)
variable {p:Prop}
section
open Go.RowKit
def tp(N:Nat)(i:Ins)(w:C)(P:1<=V)(j:V<=8)(hF:0<=F)(l:F<=3)(m:len<=60)(hs:a7i N a7k w):
  Calls pG 128 #[Ag #[I Y V,I Y F,U s len cap],.map (G N),Ag #[I Y i.k,I Y i.tgt,I Y i.a,I Y i.b,I Y i.n,I Y i.g]] w λe w'=>e=Rt (I Y (bo V F len i))/\bl w w':=by
 obtain⟨k,c,a,b,n,g⟩:=i;by_cases h:btw k 1 19=W5
 .rcases rM h with rfl|rfl|rfl|rfl|rfl|rfl|rfl|rfl|rfl|rfl|rfl|rfl|rfl|rfl|rfl|rfl|rfl|rfl|rfl
  .exact PC V F s _ _ N c a b n g w P j hF l m hs
  .exact Nk V F s _ _ N c a b n g w P j hF l m hs
  .exact SA V F s _ _ N c a b n g w P j hF l m hs
  .exact Sl V F s _ _ N c a b n g w P j hF l m hs
  .exact Ny V F s _ _ N c a b n g w P j hF l m hs
  .exact Ph V F s _ _ N c a b n g w P j hF l m hs
  .exact SB V F s _ _ N c a b n g w P j hF l m hs
  .exact Pt V F s _ _ N c a b n g w P j hF l m hs
  .exact MQ V F s _ _ N c a b n g w P j hF l m hs
  .exact Ma V F s _ _ N c a b n g w P j hF l m hs
  .exact LN V F s _ _ N c a b n g w P j hF l m hs
  .exact LX V F s _ _ N c a b n g w P j hF l m hs
  .exact Lz V F s _ _ N c a b n g w P j hF l m hs
  .exact LQ V F s _ _ N c a b n g w P j hF l m hs
  .exact Mi V F s _ _ N c a b n g w P j hF l m hs
  .exact LS V F s _ _ N c a b n g w P j hF l m hs
  .exact Md V F s _ _ N c a b n g w P j hF l m hs
  .exact Mp V F s _ _ N c a b n g w P j hF l m hs
  .exact LH V F s _ _ N c a b n g w P j hF l m hs
 .exact LI V F s _ _ N k c a b n g w P j hF l m hs cn

def Ww(b B cap:Nat)(c:lI)(w:C)(P:1<=V)(j:V<=8)(hF:0<=F)(l:F<=3)(m:X c<=60)(T:b < R (M w))(y:∀k (h:k < X c),a9b w b (B+k * 6) c[k]):
  Calls pG 76 #[Ag #[I Y V,I Y F,U (G ⟨b,B,E⟩) (X c) cap]] w λe w'=>e=Rt (I Y (ge V F (X c) c))/\bl w w':=by
 have t:n4 (R (M w)) w (w.alloc (A #[I Y V,I Y F,U (G ⟨b,B,E⟩) (X c) cap] 24)):=ai;go_enter func76,ntmps76;go_wp2_with (go_at_call 127;refine(G9 _).mono ?_;rintro e K ⟨rfl,u,vZ⟩;obtain⟨ad,ab⟩:=Mr vZ;have q:K.cell? ⟨R (M w),2,E⟩=G (U (G ⟨b,B,E⟩) (X c) cap):=BF);simp only[j0] at u;have r:K.cell? ⟨R (M w),0,E⟩=G (I Y V):=BF;have s:K.cell? ⟨R (M w),1,E⟩=G (I Y F):=BF;clear ad ab;have z1:R (M w)+1<=R (M K):=lV;have z:bl w K:=t.trans (vZ.mono ae);go_loopw [35] (λi wr=>∃k:Nat,k<=X c/\i=I Y k/\bl K wr/\Hid (ge V F (X c) (c.drop k)=ge V F (X c) c)) (λi _=>X c - (intOf i).toNat)
 case atStart=>exact⟨0,j1 _,rfl,bR _ _,rfl⟩
 case round=>
  obtain⟨k,Z,rfl,a,HR⟩:=hrel;have Q:wr.cell? ⟨R (M w),0,E⟩=G (I Y V):=by rw[a.cell (by simp;omega)];exact r
  have r1:wr.cell? ⟨R (M w),1,E⟩=G (I Y F):=by rw[a.cell (by simp;omega)];exact s
  have D:wr.cell? ⟨R (M w),2,E⟩=G (U (G ⟨b,B,E⟩) (X c) cap):=by rw[a.cell (by simp;omega)];exact q
  have v:=a.size;have W:R (M w) < R (M wr):=aa;by_cases H:k < X c
  .have hi:a9b wr b (B+k * 6) c[k]:=((y k H).below z T).below a aa
   obtain⟨i0,i1,i2,i3,i4,i5⟩:=hi;have n0:=bG;have N:=kA;clear r s q;have o:=FE (V:=V) (F:=F) (L:=X c) H;by_cases hz:bo V F (X c) c[k]=0
   .have HC:Hid (ge V F (X c) (c.drop (k+1))=ge V F (X c) c):=by have:=HR.out;rw[o,if_pos hz] at this;exact this
    clear o HR;go_wp2_with (go_at_call 128;refine(tp V F _ _ _ _ c[k] _ P j hF l m ?hs).mono ?_;(case hs=>exact u.below (a.alloc v _) (lR _));rintro e n ⟨rfl,g⟩);go_roundw
    case rel=>exact⟨k+1,aa,aJ,(a.alloc v _).trans (g.mono au),HC⟩
    case measure=>exact aK
   .rw[if_neg hz] at o
    have HC:Hid (bo V F (X c) c[k]=ge V F (X c) c):=by have:=HR.out;rw[o] at this;exact this
    have ah:(bo V F (X c) c[k]!=0)=true:=mT;clear o HR;go_wp2_with (go_at_call 128;refine(tp V F _ _ _ _ c[k] _ P j hF l m ?hs).mono ?_;(case hs=>exact u.below (a.alloc v _) (lR _));rintro e n ⟨rfl,g⟩);go_ret;exact⟨bE HC.out,z.trans (((a.alloc v _).trans (g.mono au)).mono aa)⟩
  .go_wp2
   go_ret;exact⟨bE VM,z.trans (a.mono aa)⟩

section
variable (w:C)(P:1<=V)(j:V<=8)(hF:0<=F)(l:F<=3)
def a0g:
  Calls pG 76 #[Ag #[I Y V,I Y F,U s 0 cap]] w λe w'=>e=Rt (I Y 0)/\bl w w':=by
 have t:n4 (R (M w)) w (w.alloc (A #[I Y V,I Y F,U s 0 cap] 24)):=ai;go_enter func76,ntmps76;go_wp2_with (go_at_call 127;refine(G9 _).mono ?_;rintro e K ⟨rfl,u,vZ⟩;have q:K.cell? ⟨R (M w),2,E⟩=G (U s 0 cap):=BF)
 go_rounds 1
 go_ret;exact⟨rfl,t.trans (vZ.mono ae)⟩

def mr(h:p:=by
 go_enter func76,ntmps76;go_wp2;go_ret;exact⟨rfl,ai⟩):=h
def WF(W:60 < len):
  Calls pG 76 #[Ag #[I Y V,I Y F,U s len cap]] w λe w'=>e=Rt (I Y 2)/\bl w w':=by
 have a:(60:Int) < (len:Int):=aa;exact mr
end
def CN(w:C)(h:¬(1<=V/\V<=8/\0<=F/\F<=3)):
  Calls pG 76 #[Ag #[I Y V,I Y F,U s len cap]] w λe w'=>e=Rt (I Y 3)/\bl w w':=by
 by_cases q:V < 1
 .clear h
  exact mr
 by_cases t:8 < V
 .clear h
  exact mr
 by_cases z:F < 0
 .clear h
  exact mr
 .have c:3 < F:=by omega
  clear h;exact mr

def fY(c:lI)(w:C)(h:a2r w s c):
  Calls pG 76 #[Ag #[I Y V,I Y F,U s (X c) cap]] w λe w'=>e=Rt (I Y (aA V F c))/\bl w w':=by
 unfold aA;by_cases j:1<=V/\V<=8/\0<=F/\F<=3
 .obtain⟨hV,xZ,hF,zd⟩:=j
  have g:=wP;have a:=tF;by_cases W:60 < X c
  .simpa[g,a,W] using WF V F s _ cap w hV xZ hF zd W
  .rcases h with rfl|⟨b,B,rfl,T,y⟩
   .simpa[g,a,ge] using a0g V F s cap w hV xZ hF zd
   .simpa[g,a,W] using Ww V F b B cap c w hV xZ hF zd aa T y
 .have:btw V 1 8=d\/btw F 0 3=false:=by
   by_cases q:1<=V/\V<=8
   .right;simp[btw];omega
   .left;simp[btw];omega
  rcases this with t|t
  .simpa[t] using CN V F s (X c) cap w j
  .simpa[t] using CN V F s (X c) cap w j
def YL {V F:Int}{c:lI}(h:aA V F c=0):X c<=60:=by
 unfold aA at h;split at h
 .cases h
 .split at h
  .cases h
  .omega

def Gg(k:Nat)(h:k < X L):cG c (L.drop k)=if aH c L[k]=0 then cG c (L.drop (k+1)) else aH c L[k]:=by
 rw[Q6 h];rfl

def fA(w:C)(y:a2r w s c)(m:a7r w ls L)(W:X L<=9223372036854775807):
  Calls pG 142 #[pv V F s c cap,U ls (X L) lc] w λe w'=>e=Rt (I Y (aY V F c L))/\bl w w':=by
 have P0:=nz;have D:=y.alloc (A #[I Y V,I Y F,U s (X c) cap] 24);have l:=m.alloc (A #[I Y V,I Y F,U s (X c) cap] 24);have B0:=mY;have HR:Hid (aY V F c L=if aA V F c=0 then cG c L else aA V F c):=rfl;clear y m;go_enter func142,ntmps142;go_wp2_with fail;go_call fY V F s cap c _ D as e K ⟨rfl,vZ⟩;have P1:=gF;have C1:=D.call vZ;have T:=l.call vZ;have a:bl w K:=B0.trans (vZ.mono ae);clear vZ P0 D l B0;by_cases h0:aA V F c=0
 .have Q:=YL h0
  have j:Hid (aY V F c L=cG c L):=by show _=_;rw[HR.out,if_pos h0]
  rw[h0];clear HR h0;go_wp2;go_loopw [16] (λi wr=>∃k:Nat,k<=X L/\i=I Y k/\a7w wr (R (M w)) V F s c cap/\a2r wr s c/\a7r wr ls L/\bl w wr/\Hid (cG c (L.drop k)=cG c L)) (λi _=>X L - (intOf i).toNat)
  case atStart=>exact⟨0,j1 _,rfl,P1,C1,T,a,rfl⟩
  case round=>
   obtain⟨k,Z,rfl,PR,CR,LR,BR,u⟩:=hrel;clear P1 C1 T a;by_cases H:k < X L
   .obtain⟨b,B,rfl,ss,gc,GR,IR,ad,ab⟩:=LR k H
    obtain⟨⟨p0,r,v⟩,p3⟩:=id PR;obtain⟨⟨g0,q,g2,g3,z,g5,g6⟩,gz⟩:=id GR;have n0:=bG;have N:=il;have o:=ag (Gg c L k H);unfold maxLen at ab;have PA:=PR.alloc (A #[O L[k].n,O L[k].sp.n,I Y L[k].sp.lo,I Y L[k].sp.hi,O L[k].t,O L[k].f,U ss (X L[k].s) gc] 91);have CA:=CR.alloc (A #[O L[k].n,O L[k].sp.n,I Y L[k].sp.lo,I Y L[k].sp.hi,O L[k].t,O L[k].f,U ss (X L[k].s) gc] 91);have LA:=LR.alloc (A #[O L[k].n,O L[k].sp.n,I Y L[k].sp.lo,I Y L[k].sp.hi,O L[k].t,O L[k].f,U ss (X L[k].s) gc] 91);have IA:=Rq;have BA:=BR.alloc BR.size (A #[O L[k].n,O L[k].sp.n,I Y L[k].sp.lo,I Y L[k].sp.hi,O L[k].t,O L[k].f,U ss (X L[k].s) gc] 91);clear PR CR LR IR BR GR;go_wp2_with fail;go_call KU V F s c cap L[k] ss gc _ CA Q IA aa as e w2 ⟨rfl,g⟩;have P2:=PA.call g;have C2:=CA.call g;have L2:=LA.call g;have B2:=BA.trans (g.mono BA.size);clear g PA CA LA IA BA;by_cases hz:aH c L[k]=0
    .have HT:Hid (cG c (L.drop (k+1))=cG c L):=by show _=_;rw[<-u.out,o.out,if_pos hz]
     rw[hz];clear u o hz;go_wp2;go_roundw
     case rel=>exact⟨k+1,aa,aJ,P2,C2,L2,B2,HT⟩
     case measure=>exact aK
    .have HT:Hid (aH c L[k]=cG c L):=by show _=_;rw[<-u.out,o.out,if_neg hz]
     have P:(aH c L[k]!=0)=true:=mT;clear u o;go_wp2;go_ret;exact⟨bE (by rw[j.out,HT.out]),B2⟩
   .go_wp2
    go_ret;exact⟨bE (by rw[j.out,<-u.out,Q7 (by omega)];rfl),BR⟩
 .have j:Hid (aY V F c L=aA V F c):=by show _=_;rw[HR.out,if_neg h0]
  have P:(aA V F c !=0)=true:=kG;clear HR;go_wp2;go_ret;exact⟨bE j.out.symm,a⟩
end
section
open Go.RowKit Go.Sort
def GD(w:C)(base:Nat)(t ty e:TypeId)(i:TypeInfo)(size:Nat)(F:P.underlying t=G (.slice e))(hi:P.info? e=G i)(v:mh)(n c:Nat)(xs:List mh)(D:w.ownsRow base e size v n xs):
  (Builtin.append_ #[t,t] ty #[v,U E 0 c]).run P w=.ok v w:=by
 rcases D.2 with⟨rfl,rfl⟩|⟨g,V,u,rfl,_,_,a,_⟩
 .simp[Builtin.append_,run_underlying F,sizeOf,typeInfo,hi,Builtin.lenOf,Builtin.firstCells]
 .simp[Builtin.append_,run_underlying F,sizeOf,typeInfo,hi,Builtin.lenOf,Builtin.firstCells,a,storeCells]

def An(w:C){g:Array Oper}{rest:List Oper}{o:Oper}{a:Act}{Q:Exit->Act->C->Prop}(k:o.guard=E)(s x:Operand)(t:TypeId)(l:o.op=.call {callee:=.builtin .append,args:=#[s,x],argTypes:=#[t,t]})
  (base:Nat)(e:TypeId)(i:TypeInfo)(size:Nat)(F:P.underlying t=G (.slice e))(hi:P.info? e=G i)
  (v:mh)(n c:Nat)(xs:List mh)(hs:a.eval s=v)(D:w.ownsRow base e size v n xs)(N:a.eval x=U E 0 c)
  (h:wpList P g Q rest (a.put o.dst v) w):wpList P g Q (o::rest) a w:=by
 refine wpList_plain k λK r=> ?_;have j:=GD (P:=P) w base t o.type e i size F hi v n c xs D;unfold Oper.wp execOp;simp only[l,resolve,invoke,builtin,Sem.run_bind,Sem.run_pure,Result.andThen_ok,List.map_toArray,j6,j7,hs,N,j];exact r _ _ h

def a0f (w:C):grow w #[]=w:=by simp[grow]

def LW{g cap n m:Nat}{e:TypeId}{xs:List mh}(h:w.ownsRow B e 1 (U (G ⟨g,0,E⟩) n cap) n xs)(F:m<=n):w.ownsRow B e 1 (U (G ⟨g,0,E⟩) m cap) m (xs.take m):=by
 obtain⟨W,t⟩:=h;rcases t with⟨a,_⟩|⟨j,i,u,a,T,P,q,t,z,c⟩
 .cases a
 .cases a
  refine⟨by rw[List.length_take];omega,.inr ⟨g,cap,u,rfl,T,P,aa,t,z,?_⟩⟩;rw[<-c,List.take_take];congr 1;omega

def yv.own{v:mh}{l:List Int}(h:w.ownsRow B e 1 v n (l.map (.int .i64))):
  ∃ss cap,v=U ss (X l) cap/\yv w ss l/\X l<=cap/\cap<=maxLen/\∀a,ss=G a->B<=a.block/\Thw w a.block:=by
 have Q:X l=n:=by have:=h.1;simpa using this
 subst Q;rcases h.2 with⟨rfl,i⟩|⟨g,cap,u,rfl,T,P,q,t,z,c⟩
 .have:l=[]:=Q8.1 i
  subst this;exact⟨E,0,rfl,.inl rfl,lR _,cL,λa ha=>kU⟩
 .refine⟨G ⟨g,0,E⟩,cap,rfl,.inr ⟨g,0,rfl,(J6.1 P).1,λk Z=> ?_⟩,q,t,λa ha=>by cases ha;exact⟨T,Thw.own h rfl⟩⟩
  have:=h.cellAt k aa;rw[j5,this];simp[Z]

def dd (L:List Gs):List Int:=Lib.compact ((L.flatMap Gs.s).mergeSort λx y=>decide (x<=y))

def a1V(k:Nat)(h:k < X L):(L.take (k+1)).flatMap Gs.s=(L.take k).flatMap Gs.s++L[k].s:=by
 rw[Q9 h,Z3];simp
def a5b(k:Nat):X ((L.take k).flatMap Gs.s)<=X (L.flatMap Gs.s):=by
 conv=>rhs;rw[<-List.take_append_drop k L]
 rw[Z3,x6];omega

def Tryz.info_intG:(Tryz.prog.info? 3).map (λi=>(i.zero,i.size,i.bytes))=G (G (I Y 0),1,8):=ac
def pO{z:Nat}{v:mh}{n:Nat}{xs:List mh}(h:w.ownsRow B e z v n xs){k:Nat}(Z:v.ownBlock=G k):B<=k:=by
 rcases h.2 with⟨rfl,_⟩|⟨g,V,u,rfl,T,P,_⟩
 .cases Z
 .cases Z
  exact T

def NN(w:C)(m:a7r w ls L)(W:X L<=1000000)(H:X (L.flatMap Gs.s)<=1000000):
  Calls pG 180 #[U ls (X L) lc] w λe w'=>∃v,e=Rt v/\w'.ownsRow (R (M w)) 3 1 v (X (dd L)) ((dd L).map (.int .i64))/\bl w w':=by
 obtain⟨F,hi,a7,a1,a0⟩:=info_parts Tryz.info_intG;go_enter func180,ntmps180;go_wp2;go_loopw [3,8] (λo i wr=>∃k:Nat,k<=X L/\i=I Y k/\wr.ownsRow (R (M w)) 3 1 o (X ((L.take k).flatMap Gs.s)) (((L.take k).flatMap Gs.s).map (.int .i64))/\bl w wr) (λ_ i _=>X L - (intOf i).toNat)
 case atStart=>exact⟨0,j1 _,rfl,⟨ae,.inl ⟨rfl,ae⟩⟩,bR _ _⟩
 case round=>
  obtain⟨k,Z,rfl,D,a⟩:=hrel;have s1:=a.size;by_cases ay:k < X L
  .obtain⟨b,B,rfl,ss,gc,GR,IR,_⟩:=m.below a (lR _) k ay
   obtain⟨⟨g0,g1,g2,g3,g4,g5,g6⟩,gz⟩:=id GR;have n0:=bG;have n1:=il;have l:=ag (a1V L k ay);have c1:=a5b L (k+1);rw[l.out,x6] at c1;have IA:=Rq;have OA:=D.alloc (A #[O L[k].n,O L[k].sp.n,I Y L[k].sp.lo,I Y L[k].sp.hi,O L[k].t,O L[k].f,U ss (X L[k].s) gc] 91);have BA:=a.alloc s1 (A #[O L[k].n,O L[k].sp.n,I Y L[k].sp.lo,I Y L[k].sp.hi,O L[k].t,O L[k].f,U ss (X L[k].s) gc] 91);cases ss with
   |none=>
    have T:L[k].s=[]:=by
     rcases IR with h|⟨_,_,h,_⟩
     .exact h
     .cases h
    have a9:Hid ((L.take (k+1)).flatMap Gs.s=(L.take k).flatMap Gs.s):=by show _=_;rw[l.out,T,Z7]
    rw[T] at OA BA g6;clear IA l c1;go_wp2_with (at_builtin;refine An _ rfl _ _ 34 rfl (R (M w)) 3 F 1 underlying34 hi _ _ gc _ rfl OA rfl ?_);go_roundw
    case rel=>exact⟨k+1,aa,aJ,by rw[a9.out];exact OA,BA⟩
    case measure=>exact aK
   |some ad=>
    have r:∀j u,(L[k].s.map (Value.int .i64))[j]? =G u->(wr.alloc (A #[O L[k].n,O L[k].sp.n,I Y L[k].sp.lo,I Y L[k].sp.hi,O L[k].t,O L[k].f,U (G ad) (X L[k].s) gc] 91)).cell? (ad.add j)=G u:=by
     intro j u ak;have Q:j < X L[k].s:=by
      have:=(Z8.1 ak).1;simpa using this
     obtain⟨b',bb,e',c,a3⟩:=IA.get j Q;cases e';have:=a3 j Q;rw[List.getElem?_map,List.getElem?_eq_getElem Q] at ak;cases ak;rw[<-this,Addr.add_lit]
    clear IA;go_wp2_with (at_builtin;refine wpList_append_own _ rfl _ _ 34 rfl (R (M w)) 3 F (I Y 0) 1 8 underlying34 hi a7 a1 a0 rfl an _ _ _ rfl OA ad (X L[k].s) gc (L[k].s.map (.int .i64)) rfl ae r (λx N=>by obtain⟨y,_,rfl⟩:=z7.1 N;rfl) cL aa au ?_;intro v' w3 ar af ba);go_roundw
    case rel=>exact⟨k+1,aa,aJ,by rw[l.out,j8,x6];exact ar,BA.grown af au (λj Q=>pO D Q)⟩
    case measure=>exact aK
  .have a5:k=X L:=by omega
   subst a5;rw[Z9] at D;have HS:Hid (dd L=Lib.compact ((L.flatMap Gs.s).mergeSort λx y=>decide (x<=y))):=rfl;generalize hzs:L.flatMap Gs.s=zs at *;clear hzs m;rcases D.2 with⟨rfl,T⟩|⟨g,V,bg,rfl,ah,P,h1,h2,h3,h4⟩
   .have z:=Q8.1 T
    have HE:Hid (dd L=[]):=by show _=_;rw[HS.out,z];simp[Lib.compact,Lib.compactUpTo]
    clear HS z T;go_wp2_with fail;go_call Tryz.slices_Sort_int_none _ _ _ as e K ⟨rfl,rfl⟩;go_wp2_with fail;go_call Tryz.slices_Compact_int_empty _ _ _ as e K ⟨rfl,rfl⟩;go_wp2;go_ret;exact⟨_,rfl,by rw[HE.out];exact⟨rfl,.inl ⟨rfl,rfl⟩⟩,a⟩
   .have a6:=(J6.1 P).1
    rw[Nat.mul_one] at h4;go_wp2_with fail;go_call Tryz.slices_Sort_int g 0 V zs _ (holds_of_blockI P h4) a6 aa as e K ⟨rfl,n,os,am⟩;have ap:X (zs.mergeSort λx y=>decide (x<=y))=X zs:=List.length_mergeSort _;have O1:K.ownsRow (R (M w)) 3 1 (U (G ⟨g,0,E⟩) (X zs) V) (X zs) ((zs.mergeSort λx y=>decide (x<=y)).map (.int .i64)):=by
     rw[am];exact ownsRow_sortedI ap ah P h1 h2 h3
    have B1:bl w K:=by
     rw[am];exact a.grown (grownBy_sortedI _) s1 (λj Q=>by cases Q;exact ah)
    clear am;generalize hys:(zs.mergeSort λx y=>decide (x<=y))=ys at *;have HE:Hid (dd L=Lib.compact ys):=HS.out;have ax:X ys=X zs:=ap;clear hys ap HS D h4 h3 P a;rcases O1.2 with⟨h',_⟩|⟨g',be,bc,h',-,al,bf,a8,a4,ao⟩
    .cases h'
    .cases h'
     rw[Nat.mul_one,<-ax] at ao;have a2:=Lib.compact_length_le ys;go_wp2_with fail;rw[<-ax];go_call Tryz.slices_Compact_int g 0 V ys _ (holds_of_blockI al ao) aa aa as e w2 ⟨rfl,q,ab⟩;rw[<-a0f (putRow _ _ _ _ _)] at ab;have az:X (Lib.compact ys++x7 (X ys - X (Lib.compact ys)) (0:Int))=X ys:=by rw[x6,X0];omega
     have O2:=ownsRow_sortedI (w:=K) (n:=q) (os:=#[]) (ss:=ys) az ah al aa a8 a4;rw[<-ab] at O2;have B2:bl w w2:=by
      rw[ab];exact B1.grown (grownBy_sortedI _) B1.size (λj Q=>by cases Q;exact ah)
     have O3:=LW O2 a2;rw[<-List.map_take,List.take_left] at O3;clear ab O2 O1 B1 az al ao;go_wp2;go_ret;exact⟨_,rfl,by rw[HE.out];exact O3,B2⟩
end
section
open Go.RowKit
attribute [local go_sem ↓] Go.wp_at_zero Go.wp_at_succ
def yv.news{ss:oA}{l:List Int}(h:yv w ss l):∀n,ss=G n->∀j u,(l.map (Value.int .i64))[j]? =G u->w.cell? (n.add j)=G u:=by
 intro n e j u Q;obtain⟨a,rfl⟩:=Z8.1 Q;rw[X1] at a;rcases h with h|⟨b,B,c,T,y⟩
 .rw[h] at a;simp at a
 .rw[c] at e
  cases e;rw[Addr.add_lit,y j a];simp
def Hf(h:p:=by
 rw[hSe _ _ _ _ n2,hSe _ _ _ _ n2,hSe _ _ _ _ n2,hSe _ _ _ _ n2,hSe _ _ _ _ n2,hSe _ _ _ _ n2,hSe _ _ _ _ n2,hSe _ _ _ _ n1]):=h
def Uj(w:C)(r:yv w ss g.s)(W:X g.s<=17592186043904):
  Calls pG 68 #[gv g ss i] w λe w'=>(∃js jc,e=Rt (gv g js jc)/\yv w' js g.s/\X g.s<=jc/\jc<=maxLen/\∀a,js=G a->R (M w)<=a.block/\Thw w' a.block)/\bl w w':=by
 obtain⟨ti,hi,o,V,D⟩:=info_parts Tryz.info_int;have P:n4 (R (M w)) w ((w.alloc (A #[O g.n,O g.sp.n,I Y g.sp.lo,I Y g.sp.hi,O g.t,O g.f,U ss (X g.s) i] 91)).alloc (A #[O d,O d,I Y 0,I Y 0,O d,O d,U E 0 0] 91)):=ai;have G0:sT ((w.alloc (A #[O g.n,O g.sp.n,I Y g.sp.lo,I Y g.sp.hi,O g.t,O g.f,U ss (X g.s) i] 91)).alloc (A #[O d,O d,I Y 0,I Y 0,O d,O d,U E 0 0] 91)) (R (M w)) [O g.n,O g.sp.n,I Y g.sp.lo,I Y g.sp.hi,O g.t,O g.f,U ss (X g.s) i]:=(sT.new w 91 [O g.n,O g.sp.n,I Y g.sp.lo,I Y g.sp.hi,O g.t,O g.f,U ss (X g.s) i]).call ai;have Z0:sT ((w.alloc (A #[O g.n,O g.sp.n,I Y g.sp.lo,I Y g.sp.hi,O g.t,O g.f,U ss (X g.s) i] 91)).alloc (A #[O d,O d,I Y 0,I Y 0,O d,O d,U E 0 0] 91)) (R (M w)+1) [O d,O d,I Y 0,I Y 0,O d,O d,U E 0 0]:=by
  have h:=sT.new (w.alloc (A #[O g.n,O g.sp.n,I Y g.sp.lo,I Y g.sp.hi,O g.t,O g.f,U ss (X g.s) i] 91)) 91 [O d,O d,I Y 0,I Y 0,O d,O d,U E 0 0];rw[j0] at h;exact h
 have I0:=r.call P;have af:R (M ((w.alloc (A #[O g.n,O g.sp.n,I Y g.sp.lo,I Y g.sp.hi,O g.t,O g.f,U ss (X g.s) i] 91)).alloc (A #[O d,O d,I Y 0,I Y 0,O d,O d,U E 0 0] 91)))=R (M w)+1+1:=ae;have ab:=ag af;clear r af;go_enter func68,ntmps68;go_upto_region 1 with fail
 generalize ((w.alloc _).alloc _)=w1 at *;have ad:=q9 w1 (e:=3) (size:=1) #[] 0 (lR _) (j1 _) rfl;have I1:=I0.call (w':=w1.alloc (A #[] 3)) ai;have G1:=G0.call (w':=w1.alloc (A #[] 3)) ai;have N:=G1.1 6 _ rfl;go_wp2_with (at_builtin;refine bn _ rfl _ _ 34 rfl (R (M w1)) 3 ti (I Y 0) 1 8 underlying34 hi o V D rfl an _ _ _ rfl ad ss (X g.s) i (g.s.map (.int .i64)) rfl ?qc1 ?qc0 ?qc2 ?qc3 ?qc4 ?qc5 ?qc6 ?_)
 case qc1=>simp
 case qc0=>
  intro e;rcases I0 with h|⟨b,B,e',_⟩
  .rw[h];rfl
  .rw[e'] at e;cases e
 case qc2=>exact I1.news
 case qc3=>intro u hu;obtain⟨x,-,rfl⟩:=z7.1 hu;rfl
 case qc4=>unfold maxLen;omega
 case qc5=>omega
 case qc6=>first|omega|(rw[j0];omega)|(simp;omega)|simp
 intro s n xK m Q;have c:bl w1 n:=((bR _ w1).alloc (lR _) _).grown m ae (λk Z=>by cases Z;exact lR _);(try rw[z8] at xK);obtain⟨js,jc,rfl,JI,J1,J2,JF⟩:=kv;have l:=G0.call c;have Z2:=Z0.call c;have B2:=P.trans (c.mono P.size);have HJ:Hid (a7c (λb=>R (M w)+1+1<=b) n js g.s):=by
  show a7c _ _ _ _;rcases JI with h|⟨b,B,e,T,y⟩
  .exact cA
  .have:=JF _ e
   have t:=ab.out;simp only at this;exact .inr ⟨b,B,e,aa,⟨T,this.2⟩,y⟩
 have j:Hid (∀a,js=G a->R (M w)+1+1<=a.block/\Thw n a.block):=λa F=>⟨by have:=(JF a F).1;have t:=ab.out;omega,(JF a F).2⟩
 clear xK m Q G0 Z0 G1 I0 I1 ad N c P JI JF ab;obtain⟨g0,q,K,g3,z,g5,g6⟩:=l.c7;have al:=l.2.2 6;obtain⟨z0,z1,z2,z3,z4,z5,z6⟩:=Z2.c7;have ak:=Z2.2.2 0;have a3:=Z2.2.2 1;have am:=Z2.2.2 2;have ax:=Z2.2.2 3;have ao:=Z2.2.2 4;have a1:=Z2.2.2 5;have az:=Z2.2.2 6;go_wp2;refine bodyPost_ret (v:=Ag #[O g.n,O g.sp.n,I Y g.sp.lo,I Y g.sp.hi,O g.t,O g.f,U js (X g.s) jc]) (by simp[results,results68,go_sem,z0,z1,z2,z3,z4,z5,z6]) rfl ⟨⟨js,jc,rfl,(HJ.out.same (λb T _=> ?_) ?_).at,J1,J2,λa F=>⟨by have:=(j.out a F).1;omega,(j.out a F).2.same ?_⟩⟩,?_⟩
 .have n1:b≠R (M w):=by omega
  have n2:b≠R (M w)+1:=aa;exact Hf
 .simp[J7]
 .have T:=(j.out a F).1
  have n1:a.block≠R (M w):=aa;have n2:a.block≠R (M w)+1:=aa;exact Hf
 .exact(((((((B2.setCell aw _).setCell aw _).setCell aw _).setCell aw _).setCell aw _).setCell aw _).setCell aw _).setCell aw _
end
section
open Go.RowKit
def Wb (S:Nat->Prop)(w:C):∃w3:C,R (M w3)=R (M w)/\(∀b,S b->w3.heap[b]? =w.heap[b]?)/\∀b o,¬S b->w3.cell? ⟨b,o,E⟩=none:=by
 classical
 refine⟨{w with heap:=w.heap.mapIdx λk x=>if S k then x else A #[] 0},ae,λb T=> ?_,λb o T=> ?_⟩
 .simp only[Array.getElem?_mapIdx]
  cases w.heap[b]? with
  |none=>rfl
  |some x=>simp[T]
 .simp only[World.cell?,Array.getElem?_mapIdx]
  cases w.heap[b]? with
  |none=>rfl
  |some x=>simp[T]
section
variable {S:Nat->Prop} {w:World} {x:Pic} {vs fs:oA}
def a7d.in (h:a7d S w x vs fs):a8b S w vs x.vq/\a8p S w fs x.fq:=by
 obtain⟨w3,u,hs,Q⟩:=Wb S w;have z:=h w3 (λb T _=>hs b T) aa;have m:∀{b o:Nat} {v:mh},w3.cell? ⟨b,o,E⟩=G v->S b/\b < R (M w)/\w.cell? ⟨b,o,E⟩=G v:=by
  intro b o v y;have T:S b:=Classical.byContradiction λT=>by rw[Q b o T] at y;cases y
  have g:=World.block_lt_of_cell? w3 _ y;refine⟨T,by simpa[u] using g,?_⟩;rw[<-q7 (a:=⟨b,o,E⟩) (hs b T)];exact y
 have H:∀{b:Nat},S b->Thw w3 b->Thw w b:=λT h=>h.same (hs _ T).symm;have hI:∀{P:oA} {l:List Int},a7c (λ_=>True) w3 P l->a7c S w P l:=by
  intro P l h;rcases h with h|⟨b,B,e,-,T,y⟩
  .exact cA
  .cases l with
   |nil=>exact .inl rfl
   |cons a r=>
    have h0:=m (y 0 ae);exact .inr ⟨b,B,e,h0.1,⟨h0.2.1,H h0.1 T.2⟩,λk Z=>(m (y k Z)).2.2⟩
 have hG:∀{K:oA} {L:List Gs},a8b (λ_=>True) w3 K L->a8b S w K L:=by
  intro K L h i hi;obtain⟨b,B,e,⟨-,F⟩,P,V,⟨⟨s,D,c2,W,N,c5,c6⟩,_⟩,t,c,n⟩:=h i hi;have j:=m s;exact⟨b,B,e,⟨j.1,H j.1 F⟩,P,V,⟨⟨j.2.2,(m D).2.2,(m c2).2.2,(m W).2.2,(m N).2.2,(m c5).2.2,(m c6).2.2⟩,j.2.1⟩,hI t,c,n⟩
 refine⟨hG z.1,λi hi=> ?_⟩;obtain⟨b,B,e,-,_,rs,rc,q,t,c,n⟩:=z.2 i hi;have j:=m q;exact⟨b,B,e,j.1,j.2.1,rs,rc,j.2.2,t,c,hG n⟩
end
def a8e (S:Nat->Prop)(w:World)(es:oA)(L:List Edg):Prop:=
 ∀i (h:i < X L),∃b off,es=G ⟨b,off,E⟩/\S b/\b < R (M w)/\∃vs vc fs fc,(w.cell? ⟨b,off+i * 4,E⟩=G (I Y L[i].tgt)/\w.cell? ⟨b,off+i * 4+1,E⟩=G (O L[i].pic.none)/\w.cell? ⟨b,off+i * 4+2,E⟩=G (U vs (X L[i].pic.vq) vc)/\w.cell? ⟨b,off+i * 4+3,E⟩=G (U fs (X L[i].pic.fq) fc))/\a7d S w L[i].pic vs fs/\(X L[i].pic.vq<=vc/\vc<=maxLen)/\(X L[i].pic.fq<=fc/\fc<=maxLen)
section
variable {S S':Nat->Prop} {w w':World} {es:oA} {L:List Edg}
def a8e.nil:a8e S w es []:=λi h=>absurd h ae
section
variable (h:a8e S w es L)
def a8e.same(hs:∀b,S b->b < R (M w)->w'.heap[b]? =w.heap[b]?)(u:R (M w)<=R (M w')):a8e S w' es L:=by
 intro i hi;obtain⟨b,B,e,m,T,vs,N,fs,c,⟨s,D,g,W⟩,t,K,P⟩:=h i hi;have y:∀j,w'.cell? ⟨b,j,E⟩=w.cell? ⟨b,j,E⟩:=λj=>q7 (a:=⟨b,j,E⟩) (hs b m T);exact⟨b,B,e,m,lL T u,vs,N,fs,c,⟨(y _).trans s,(y _).trans D,(y _).trans g,(y _).trans W⟩,(t.same hs u).mono λb T _=>T.1,K,P⟩
def a8e.mono(hs:∀b,S b->b < R (M w)->S' b):a8e S' w es L:=by
 intro i hi;obtain⟨b,B,e,m,T,vs,N,fs,c,y,t,K,P⟩:=h i hi;exact⟨b,B,e,hs b m T,T,vs,N,fs,c,y,t.mono hs,K,P⟩
def a8e.call(T:bl w w'):a8e S w' es L:=h.same (λb _ H=>T.block b H) T.size
end
end
def a7t.eds{a:Nat}{w:C}{es:oA}{c:Nat}{L:List Ed}(h:a7t n a w (U es (X L) c) L):a8e (λb=>n<=b) w es (L.map edG):=by
 intro i hi;have k:i < X L:=gA;have m:(L.map edG)[i]=edG L[i]:=ae;rw[m];rcases h.own.2 with⟨e,z⟩|⟨g,V,u,e,T,P,q,t,s,o⟩
 .omega
 .simp only[q8.injEq] at e
  obtain⟨l,-,-⟩:=e;subst l;obtain⟨r,v,H⟩:=h.pics _ (gM k);have y:∀j,j < 4->w.cell? ⟨g,i * 4+j,E⟩=(dN L[i])[j]? :=λj Q=>by
   rw[<-CO L i k j Q];exact World.ownsRow.cellAt h.own _ aa
  refine⟨g,0,rfl,T,(J6.1 P).1,L[i].vs,L[i].vc,L[i].fs,L[i].fc,?_,r.mono λb T _=>T.1,v,H⟩;simp only[j5];exact⟨y 0 aa,y 1 aa,y 2 aa,y 3 aa⟩
def cC (S:Nat->Prop)(w':World)(e:Ending)(r:List Edg×Bool×Bool):Prop:=∃es ec,e=Rt (Tu #[U es (X r.1) ec,O r.2.1,O r.2.2])/\a8e S w' es r.1
def Dt(cap:Nat)(l:List Int)(w:C)(W:X l<=9223372036854775807)(hs:yv w ss l):
  Calls pG 168 #[U ss (X l) cap,I Y x] w λe w'=>e=Rt (O (l.contains x))/\w'=w:=by
 have q:Hid (l.contains x=decide (x∈l)):=iZ;generalize l.contains x=r at *;go_enter func168,ntmps168;go_wp2
 go_loop [5] (λi=>∃k:Nat,k<=X l/\i=I Y k/\Hid (x∈l↔x∈l.drop k)) (λi=>X l - (intOf i).toNat)
 case atStart=>exact⟨0,j1 _,rfl,Iff.rfl⟩
 case round=>
  obtain⟨k,Z,rfl,HA⟩:=hrel;by_cases xy:k < X l
  .obtain⟨b,B,rfl,T,y⟩:=hs.get k xy
   have c:=bG;have N:=im;have s:=y k xy;have HN:=My;clear y hs;by_cases hp:l[k]=x
   .have a:Hid (x∈l):=HA.out.2 (HN.out.2 (.inl hp.symm))
    clear HN HA;have g:(l[k]==x)=true:=by simp[hp]
    go_wp2;go_ret;exact⟨bF (by rw[q.out];exact(decide_eq_true a.out).symm),rfl⟩
   .have a:=OO
    have g:(l[k]==x)=false:=by simpa using hp
    clear HN HA;go_wp2
    go_round
    case rel=>exact⟨k+1,aa,aJ,a⟩
    case measure=>exact aK
  .go_wp2
   go_ret;exact⟨bF (by rw[q.out];exact(decide_eq_false λh=>by have:=HA.out.1 h;rw[Q7 (by omega)] at this;cases this).symm),rfl⟩
def lu {x:Int}(h:wrap64 x=x):IntKind.i64.wrap x=x:=by
 rw[IntKind.wrap_i64];unfold wrap64 at h;exact h

section
variable (s t:Sp)(w:C)
def vS(Z:k=5\/k=6\/k=7)(hs:s.Ok)(F:t.Ok):
  Calls pG 172 #[I Y k,sv s,sv t] w λe w'=>e=Rt (sv (cT k s t))/\bl w w':=by
 by_cases h:(s.n||t.n)=W5
 .have:=a1P k s t w h
  unfold cT;rw[if_pos h];exact this
 .have g:cT k s t=i7 (Af k s.lo t.lo) (Af k s.lo t.hi) (Af k s.hi t.lo) (Af k s.hi t.hi):=by unfold cT;rw[if_neg h]
  rw[g];obtain⟨n,lo,hi⟩:=s;obtain⟨y,c,a⟩:=t;cases n with
  |true=>exact absurd rfl h
  |false=>
   cases y with
   |true=>exact absurd rfl h
   |false=>
    rcases Z with rfl|rfl|rfl
    .exact V6 lo hi c a _ _ _ _ w (lu (kn hs.1 F.1)) (lu (kn hs.1 F.2.1)) (lu (kn hs.2.1 F.1)) (lu (kn hs.2.1 F.2.1))
    .exact Wk lo hi c a _ _ _ _ w (lu (kE hs.1 F.1)) (lu (kE hs.1 F.2.1)) (lu (kE hs.2.1 F.1)) (lu (kE hs.2.1 F.2.1))
    .exact We lo hi c a _ _ _ _ w (lu (kr hs.1 F.1)) (lu (kr hs.1 F.2.1)) (lu (kr hs.2.1 F.1)) (lu (kr hs.2.1 F.2.1))

def Oh:
  Calls pG 167 #[sv s,sv t,O d] w λe w'=>e=Rt (sv (bw s t))/\bl w w':=by
 by_cases h:(s.n||t.n)=W5
 .exact Ia s t d w h
 .obtain⟨n,lo,hi⟩:=s
  obtain⟨y,c,a⟩:=t;cases n with
  |true=>exact absurd rfl h
  |false=>
   cases y with
   |true=>exact absurd rfl h
   |false=>exact WX lo hi c a w

def Oo:
  Calls pG 167 #[sv s,sv t,O W5] w λe w'=>e=Rt (sv (bH s t))/\bl w w':=by
 by_cases h:(s.n||t.n)=W5
 .have g:bH s t=bw s t:=by
   unfold bH bw;obtain⟨n,lo,hi⟩:=s;obtain⟨y,c,a⟩:=t;cases n with
   |true=>rfl
   |false=>
    cases y with
    |true=>rfl
    |false=>exact absurd h ae
  rw[g];exact Ia s t W5 w h
 .obtain⟨n,lo,hi⟩:=s
  obtain⟨y,c,a⟩:=t;cases n with
  |true=>exact absurd rfl h
  |false=>
   cases y with
   |true=>exact absurd rfl h
   |false=>exact Wy lo hi c a w
end
def kK(h:p:=by
 go_wp2_with fail;refine(HI.out _).mono ?_;rintro e w1 ⟨rfl,vZ⟩;go_wp2
 go_ret2
 exact⟨rr sS (by rw[HN.out];simp),Below.trans ai (vZ.mono ae)⟩):=h
def gW(h:p:=by
 go_wp2
 go_ret2
 exact⟨rr sS (by rw[HN.out];simp),ai⟩):=h
def Gj(h:p:=by
 cases sn
 .by_cases h1:lo=0
  .subst h1
   by_cases h2:hi=0
   .subst h2
    go_enter func112,ntmps112;exact gW
   .have jX:(hi !=0)=true:=by simpa using h2
    go_enter func112,ntmps112;exact gW
  .have h1':(lo !=0)=true:=by simpa using h1
   go_enter func112,ntmps112;exact gW
 .go_enter func112,ntmps112
  exact gW):=h
def Cn(w:C):
  Calls pG 112 #[gv g ss i] w λe w'=>e=Rt (Tu #[O (cM g),O (dp g)])/\bl w w':=by
 have HI:=ag (λw=>Ir g.sp 0 w);have HY:=Oa;have HN:Hid (dp g=(g.sp.has 0||(g.n||g.f))):=rfl;generalize cM g=yy at *;generalize dp g=nn at *;generalize g.sp.has 0=z at *;obtain⟨n,⟨sn,lo,hi⟩,t,f,s⟩:=g;cases n
 .cases f
  .cases t
   .by_cases W:0 < X s
    .have a:=vA
     go_enter func112,ntmps112;exact kK
    .have a:=Dn
     cases sn
     .by_cases h1:lo=0
      .subst h1
       by_cases h2:hi=0
       .subst h2
        go_enter func112,ntmps112;exact kK
       .have jX:(hi !=0)=true:=by simpa using h2
        go_enter func112,ntmps112;exact kK
      .have h1':(lo !=0)=true:=by simpa using h1
       go_enter func112,ntmps112;exact kK
     .go_enter func112,ntmps112
      exact kK
   .go_enter func112,ntmps112
    exact kK
  .cases t
   .by_cases W:0 < X s
    .have a:=vA
     go_enter func112,ntmps112;exact gW
    .have a:=Dn
     exact Gj
   .go_enter func112,ntmps112
    exact gW
 .cases t
  .by_cases W:0 < X s
   .have a:=vA
    go_enter func112,ntmps112;exact gW
   .have a:=Dn
    exact Gj
  .go_enter func112,ntmps112
   exact gW

def RU (w:C)(g:Gs)(ss:oA)(i:Nat)(h:Gs)(a:oA)(y:Nat):
  a7b ((w.alloc (A #[O g.n,O g.sp.n,I Y g.sp.lo,I Y g.sp.hi,O g.t,O g.f,U ss (X g.s) i] 91)).alloc (A #[O h.n,O h.sp.n,I Y h.sp.lo,I Y h.sp.hi,O h.t,O h.f,U a (X h.s) y] 91)) (R (M w)) 0 g ss i/\a7b ((w.alloc (A #[O g.n,O g.sp.n,I Y g.sp.lo,I Y g.sp.hi,O g.t,O g.f,U ss (X g.s) i] 91)).alloc (A #[O h.n,O h.sp.n,I Y h.sp.lo,I Y h.sp.hi,O h.t,O h.f,U a (X h.s) y] 91)) (R (M w)+1) 0 h a y/\bl w ((w.alloc (A #[O g.n,O g.sp.n,I Y g.sp.lo,I Y g.sp.hi,O g.t,O g.f,U ss (X g.s) i] 91)).alloc (A #[O h.n,O h.sp.n,I Y h.sp.lo,I Y h.sp.hi,O h.t,O h.f,U a (X h.s) y] 91)):=by
 refine⟨(a7b.new w g ss i).alloc _,?_,ai⟩;have:=a7b.new (w.alloc (A #[O g.n,O g.sp.n,I Y g.sp.lo,I Y g.sp.hi,O g.t,O g.f,U ss (X g.s) i] 91)) h a y;rw[j0] at this;exact this
abbrev pH (w:World)(V F:Int)(s:oA)(c:lI)(cap:Nat)(g:Gs)(ss:oA)(gc:Nat)(h:Gs)(st:oA)(hc:Nat):World:=
 (((w.alloc (A #[I Y V,I Y F,U s c.length cap] 24)).alloc (A #[O g.n,O g.sp.n,I Y g.sp.lo,I Y g.sp.hi,O g.t,O g.f,U ss g.s.length gc] 91)).alloc (A #[O h.n,O h.sp.n,I Y h.sp.lo,I Y h.sp.hi,O h.t,O h.f,U st h.s.length hc] 91)).alloc (A #[O false,O false,I Y 0,I Y 0,O false,O false,U E 0 0] 91)

def Fr7 (w:World)(b:Nat):Prop:=(∀j,w.frozen? ⟨b,j,E⟩=false)/\b < R (M w)
def Fr7.call(h:Fr7 w b)(T:bl w w'):Fr7 w' b:=
 ⟨λj=>by rw[T.frozen (by simpa using h.2)];exact h.1 j,lL h.2 T.size⟩

def Fr7.drew(h:Fr7 w b):Fr7 w.drew b:=h.call (bR _ _).drew
def Fr7.alloc(h:Fr7 w b)(o:Obj):Fr7 (w.alloc o) b:=h.call (Below.alloc (bR _ _) (lR _) o)

def gK {V F:Int}{c:lI}{g h:Gs}(Z:aY V F c [g,h]=0):bO g.sp h.sp=0:=by
 unfold aY at Z;split at Z
 .have e:cG c [g,h]=if aH c g=0 then(if aH c h=0 then 0 else aH c h) else aH c g:=rfl
  have a:∀x,aH c x=0->cY x.sp=0:=λx N=>by
   unfold aH at N;split at N
   .assumption
   .rename_i hn;exact Decidable.not_not.1 hn
  rw[e] at Z;by_cases P:aH c g=0
  .rw[if_pos P] at Z
   by_cases i:aH c h=0
   .exact ckSps_ok.2 ⟨ckSp_ok.1 (a g P),ckSp_ok.1 (a h i)⟩
   .rw[if_neg i] at Z;exact absurd Z i
  .rw[if_neg P] at Z;exact absurd Z P
 .rename_i hn;exact absurd Z hn

section
variable (w:C)(V F:Int)(s:oA)(c:lI)(cap:Nat)(g:Gs)(ss:oA)(i:Nat)(h:Gs)(a:oA)(y:Nat)
def a4p:
  a7w (pH w V F s c cap g ss i h a y) (R (M w)) V F s c cap/\a7b (pH w V F s c cap g ss i h a y) (R (M w)+1) 0 g ss i/\a7b (pH w V F s c cap g ss i h a y) (R (M w)+1+1) 0 h a y/\a7b (pH w V F s c cap g ss i h a y) (R (M w)+1+1+1) 0 bT E 0/\Fr7 (pH w V F s c cap g ss i h a y) (R (M w)+1+1+1):=by
 refine⟨?_,?_,?_,?_,?_⟩
 .exact(((a7w.new w V F s c cap).alloc _).alloc _).alloc _
 .have:=a7b.new (w.alloc (A #[I Y V,I Y F,U s (X c) cap] 24)) g ss i
  rw[j0] at this;exact(this.alloc _).alloc _
 .have:=a7b.new ((w.alloc (A #[I Y V,I Y F,U s (X c) cap] 24)).alloc (A #[O g.n,O g.sp.n,I Y g.sp.lo,I Y g.sp.hi,O g.t,O g.f,U ss (X g.s) i] 91)) h a y
  simp only[j0] at this;exact this.alloc _
 .have:=a7b.new (((w.alloc (A #[I Y V,I Y F,U s (X c) cap] 24)).alloc (A #[O g.n,O g.sp.n,I Y g.sp.lo,I Y g.sp.hi,O g.t,O g.f,U ss (X g.s) i] 91)).alloc (A #[O h.n,O h.sp.n,I Y h.sp.lo,I Y h.sp.hi,O h.t,O h.f,U a (X h.s) y] 91)) bT E 0
  simp only[j0] at this;exact this
 .refine⟨λj=> ?_,ae⟩
  simp[go_sem]

def W7:n4 (R (M w)) w (pH w V F s c cap g ss i h a y):=ai
end
def KN (w:World)(jb:Nat)(g:Gs)(ss:oA)(gc:Nat)(h:Gs)(st:oA)(hc:Nat)(J:Sp)(w':World):Prop:=
 (w'.cell? ⟨R (M w)+1,0,E⟩=G (O g.n)/\w'.cell? ⟨R (M w)+1,1,E⟩=G (O g.sp.n)/\w'.cell? ⟨R (M w)+1,2,E⟩=G (I Y g.sp.lo)/\w'.cell? ⟨R (M w)+1,3,E⟩=G (I Y g.sp.hi)/\w'.cell? ⟨R (M w)+1,4,E⟩=G (O g.t)/\w'.cell? ⟨R (M w)+1,5,E⟩=G (O g.f)/\w'.cell? ⟨R (M w)+1,6,E⟩=G (U ss (X g.s) gc))/\
 (w'.cell? ⟨R (M w)+1+1,0,E⟩=G (O h.n)/\w'.cell? ⟨R (M w)+1+1,1,E⟩=G (O h.sp.n)/\w'.cell? ⟨R (M w)+1+1,2,E⟩=G (I Y h.sp.lo)/\w'.cell? ⟨R (M w)+1+1,3,E⟩=G (I Y h.sp.hi)/\w'.cell? ⟨R (M w)+1+1,4,E⟩=G (O h.t)/\w'.cell? ⟨R (M w)+1+1,5,E⟩=G (O h.f)/\w'.cell? ⟨R (M w)+1+1,6,E⟩=G (U st (X h.s) hc))/\
 (w'.cell? ⟨jb,0,E⟩=G (O J.n)/\w'.cell? ⟨jb,1,E⟩=G (I Y J.lo)/\w'.cell? ⟨jb,2,E⟩=G (I Y J.hi))


abbrev lP (w:World)(b:Nat)(v0 v1 v2 v3 v4 v5 v6:Value):World:=((((((w.setCell ⟨b,0,E⟩ v0).setCell ⟨b,1,E⟩ v1).setCell ⟨b,2,E⟩ v2).setCell ⟨b,3,E⟩ v3).setCell ⟨b,4,E⟩ v4).setCell ⟨b,5,E⟩ v5).setCell ⟨b,6,E⟩ v6
section
variable (w:C)(b:Nat)
def Le(k:Nat)(v0 v1 v2 v3 v4 v5 v6:mh)(h:k≠b):(lP w b v0 v1 v2 v3 v4 v5 v6).heap[k]? =w.heap[k]? :=by
 unfold lP;rw[hSe _ _ _ _ h,hSe _ _ _ _ h,hSe _ _ _ _ h,hSe _ _ _ _ h,hSe _ _ _ _ h,hSe _ _ _ _ h,hSe _ _ _ _ h]
def AL(v0 v1 v2 v3 v4 v5 v6:mh):R (M (lP w b v0 v1 v2 v3 v4 v5 v6))=R (M w):=by simp[lP]
def Ll(k j:Nat)(v0 v1 v2 v3 v4 v5 v6:mh)(h:k≠b):(lP w b v0 v1 v2 v3 v4 v5 v6).cell? ⟨k,j,E⟩=w.cell? ⟨k,j,E⟩:=q7 (a:=⟨k,j,E⟩) (Le w b k v0 v1 v2 v3 v4 v5 v6 h)
end
def a7b.put7{k o:Nat}{g:Gs}{ss:oA}{cap:Nat}{v0 v1 v2 v3 v4 v5 v6:mh}(P:a7b w k o g ss cap)(h:k≠b):a7b (lP w b v0 v1 v2 v3 v4 v5 v6) k o g ss cap:=by
 obtain⟨⟨T,q,t,z,c,n,e⟩,u⟩:=P;refine⟨⟨?_,?_,?_,?_,?_,?_,?_⟩,by rw[AL];exact u⟩<;>rw[Ll _ _ _ _ _ _ _ _ _ _ _ h]<;>assumption
def a8v.put7{k:Nat}{s:Sp}{v0 v1 v2 v3 v4 v5 v6:mh}(P:a8v w k s)(h:k≠b):a8v (lP w b v0 v1 v2 v3 v4 v5 v6) k s:=by
 obtain⟨⟨T,q,t⟩,u⟩:=P;refine⟨⟨?_,?_,?_⟩,by rw[AL];exact u⟩<;>rw[Ll _ _ _ _ _ _ _ _ _ _ _ h]<;>assumption
def bP{a w:C}{v0 v1 v2 v3 v4 v5 v6:mh}(h:n4 B a w)(hg:B<=b):n4 B a (lP w b v0 v1 v2 v3 v4 v5 v6):=((((((h.setCell ny _).setCell ny _).setCell ny _).setCell ny _).setCell ny _).setCell ny _).setCell ny _
def iz{a n z:Nat}{e:TypeId}{v:mh}{xs:List mh}(h:w.ownsRow B e z v n xs)(W:a<=B):w.ownsRow a e z v n xs:=
 ⟨h.1,h.2.imp id λ⟨g,V,u,o,D,H⟩=>⟨g,V,u,o,aa,H⟩⟩
def iE{b z:Nat}{e:TypeId}{v:mh}{xs:List mh}{v0 v1 v2 v3 v4 v5 v6:mh}(h:w.ownsRow B e z v n xs)(T:b < B):(lP w b v0 v1 v2 v3 v4 v5 v6).ownsRow B e z v n xs:=
 ⟨h.1,h.2.imp id λ⟨g,V,u,o,D,H,a⟩=>⟨g,V,u,o,D,by rw[Le _ _ _ _ _ _ _ _ _ _ (by omega)];exact H,a⟩⟩
def a7r.drew{ls:oA}{L:List Gs}(h:a7r w ls L):a7r w.drew ls L:=h.call ((bR _ _).drew)

def Gv(h:p:=by
 refine(hJ.out _).mono ?_;rintro e w2 ⟨rfl,xj⟩;have G2:=G1.call xj;have H2:=H1.call xj;have R2:=R1.call xj;have I2:=I1.call xj;have J2:=J1.call xj;have F2:=F1.call xj;have B2:=fU;clear xj G1 H1 R1 I1 J1 F1 B1 g0 g1 g2 g3 g4 g5 g6 gz k0 k1 k2 k3 k4 k5 k6 kz hJ;go_wp2;have G3:=G2.alloc (A #[O J.n,I Y J.lo,I Y J.hi] 89);have H3:=H2.alloc (A #[O J.n,I Y J.lo,I Y J.hi] 89);have R3:=R2.alloc (A #[O J.n,I Y J.lo,I Y J.hi] 89);have I3:=I2.alloc (A #[O J.n,I Y J.lo,I Y J.hi] 89);have J3:=J2.alloc (A #[O J.n,I Y J.lo,I Y J.hi] 89);have F3:=F2.alloc (A #[O J.n,I Y J.lo,I Y J.hi] 89);have B3:=B2.alloc B2.size (A #[O J.n,I Y J.lo,I Y J.hi] 89);have S3:=a8v.new w2 J;have zj:R (M w)+1+1+1 < R (M w2):=F2.2;clear G2 H2 R2 I2 J2 F2 B2;generalize w2.alloc (A #[O J.n,I Y J.lo,I Y J.hi] 89)=w3 at *;generalize (R (M w2))=jb at *;have KS:=RO;unfold KN at KS;obtain⟨n,sp,t,f,sl⟩:=g;refine wp_region_held_drew (S:=KN w jb ⟨n,sp,t,f,sl⟩ ss gc h st hc J) ac (KS _ G3.drew H3.drew S3.drew) (λxX=> ?_);unfold KN at xX |-;refine XI ?_;refine wpAnyH_take (i:=3) (v:=if n=true then undef else Pp (G ⟨R (M w)+1+1,0,E⟩)) rfl ac ac ac (λ_ _ _ h=>h) ?_ cD ?_
 .cases n
  .refine Or.inl ⟨?_,?_⟩
   .rfl
   ·(intro w xB;(try dsimp only at xB);first|(go_simp;done)|(go_simp;with_reducible rfl))
  .exact dR
 refine sm ?_;refine wpAnyH_take (i:=4) (v:=if n=true then undef else O h.n) rfl ac ac ac (λ_ _ _ h=>h) ?_ cD ?_
 .cases n
  .refine Or.inl ⟨?_,?_⟩
   .rfl
   ·(intro w xB;(try dsimp only at xB);first|(go_simp;done)|(go_simp;with_reducible rfl))
  .exact dR
 refine sm ?_;refine wpAnyH_take (i:=5) (v:=O (n||h.n)) rfl ac ac ac (λ_ _ _ h=>h) ?_ cD ?_
 .cases n
  .refine Or.inl ⟨?_,?_⟩
   .rfl
   ·(intro w xB;(try dsimp only at xB);first|(go_simp;done)|(go_simp;with_reducible rfl))
  .refine Or.inl ⟨?_,?_⟩
   .rfl
   ·(intro w xB;(try dsimp only at xB);first|(go_simp;done)|(go_simp;with_reducible rfl))
 refine sm ?_;refine QO 6 ?_;refine QO 7 ?_;refine QO 8 ?_;refine QO 9 ?_;refine wpAnyH_take (i:=10) (v:=if t=true then undef else Pp (G ⟨R (M w)+1+1,4,E⟩)) rfl ac ac ac (λ_ _ _ h=>h) ?_ cD ?_
 .cases t
  .refine Or.inl ⟨?_,?_⟩
   .rfl
   ·(intro w xB;(try dsimp only at xB);first|(go_simp;done)|(go_simp;with_reducible rfl))
  .exact dR
 refine sm ?_;refine wpAnyH_take (i:=11) (v:=if t=true then undef else O h.t) rfl ac ac ac (λ_ _ _ h=>h) ?_ cD ?_
 .cases t
  .refine Or.inl ⟨?_,?_⟩
   .rfl
   ·(intro w xB;(try dsimp only at xB);first|(go_simp;done)|(go_simp;with_reducible rfl))
  .exact dR
 refine sm ?_;refine wpAnyH_take (i:=12) (v:=O (t||h.t)) rfl ac ac ac (λ_ _ _ h=>h) ?_ cD ?_
 .cases t
  .refine Or.inl ⟨?_,?_⟩
   .rfl
   ·(intro w xB;(try dsimp only at xB);first|(go_simp;done)|(go_simp;with_reducible rfl))
  .refine Or.inl ⟨?_,?_⟩
   .rfl
   ·(intro w xB;(try dsimp only at xB);first|(go_simp;done)|(go_simp;with_reducible rfl))
 refine sm ?_;refine QO 13 ?_;refine QO 14 ?_;refine QO 15 ?_;refine wpAnyH_take (i:=16) (v:=if f=true then undef else Pp (G ⟨R (M w)+1+1,5,E⟩)) rfl ac ac ac (λ_ _ _ h=>h) ?_ cD ?_
 .cases f
  .refine Or.inl ⟨?_,?_⟩
   .rfl
   ·(intro w xB;(try dsimp only at xB);first|(go_simp;done)|(go_simp;with_reducible rfl))
  .exact dR
 refine sm ?_;refine wpAnyH_take (i:=17) (v:=if f=true then undef else O h.f) rfl ac ac ac (λ_ _ _ h=>h) ?_ cD ?_
 .cases f
  .refine Or.inl ⟨?_,?_⟩
   .rfl
   ·(intro w xB;(try dsimp only at xB);first|(go_simp;done)|(go_simp;with_reducible rfl))
  .exact dR
 refine sm ?_;refine wpAnyH_take (i:=18) (v:=O (f||h.f)) rfl ac ac ac (λ_ _ _ h=>h) ?_ cD ?_
 .cases f
  .refine Or.inl ⟨?_,?_⟩
   .rfl
   ·(intro w xB;(try dsimp only at xB);first|(go_simp;done)|(go_simp;with_reducible rfl))
  .refine Or.inl ⟨?_,?_⟩
   .rfl
   ·(intro w xB;(try dsimp only at xB);first|(go_simp;done)|(go_simp;with_reducible rfl))
 refine sm ?_;refine QO 19 ?_;refine QO 20 ?_;have L3:=(a7r.new2 w3 ⟨n,sp,t,f,sl⟩ ss gc h st hc I3 h1 h2 J3 h3 h4).drew;have G4:=G3.alloc (A #[O n,O sp.n,I Y sp.lo,I Y sp.hi,O t,O f,U ss (X sl) gc,O h.n,O h.sp.n,I Y h.sp.lo,I Y h.sp.hi,O h.t,O h.f,U st (X h.s) hc] 91);have H4:=H3.alloc (A #[O n,O sp.n,I Y sp.lo,I Y sp.hi,O t,O f,U ss (X sl) gc,O h.n,O h.sp.n,I Y h.sp.lo,I Y h.sp.hi,O h.t,O h.f,U st (X h.s) hc] 91);have R4:=R3.alloc (A #[O n,O sp.n,I Y sp.lo,I Y sp.hi,O t,O f,U ss (X sl) gc,O h.n,O h.sp.n,I Y h.sp.lo,I Y h.sp.hi,O h.t,O h.f,U st (X h.s) hc] 91);have F4:=F3.alloc (A #[O n,O sp.n,I Y sp.lo,I Y sp.hi,O t,O f,U ss (X sl) gc,O h.n,O h.sp.n,I Y h.sp.lo,I Y h.sp.hi,O h.t,O h.f,U st (X h.s) hc] 91);have S4:=S3.alloc (A #[O n,O sp.n,I Y sp.lo,I Y sp.hi,O t,O f,U ss (X sl) gc,O h.n,O h.sp.n,I Y h.sp.lo,I Y h.sp.hi,O h.t,O h.f,U st (X h.s) hc] 91);have B4:=(B3.alloc B3.size (A #[O n,O sp.n,I Y sp.lo,I Y sp.hi,O t,O f,U ss (X sl) gc,O h.n,O h.sp.n,I Y h.sp.lo,I Y h.sp.hi,O h.t,O h.f,U st (X h.s) hc] 91)).drew;refine wpAnyH_ready (rs:=[21]) ac ae ?_;refine AllReadyH.cons rfl (λK hK=> ?_) AllReadyH.nil;go_simp;refine hK.out _ _ (KS _ G4.drew H4.drew S4.drew) (λxX=> ?_);clear hK K;refine sm ?_;refine wpAnyH_ready (rs:=[22]) ac ae ?_;refine AllReadyH.cons rfl (λK hK=> ?_) AllReadyH.nil;go_simp;refine(NN _ [⟨n,sp,t,f,sl⟩,h] 2 _ L3 ae hlen).mono ?_;rintro e w5 ⟨v,rfl,xK,xw⟩;have G5:=G4.drew.call xw;have H5:=H4.drew.call xw;have R5:=R4.drew.call xw;have F5:=F4.drew.call xw;have S5:=S4.drew.call xw;have B5:bl w w5:=B4.trans (xw.mono B4.size);have z5:R (M w)+1+1+1 < R (M w3):=F3.2;simp only[World.size_drew,zA] at xK;have O5:=xK;clear xw G4 H4 R4 F4 S4 B4 L3 G3 H3 R3 F3 S3 B3 I3 J3;obtain⟨vs,vc,rfl,-,-,-,hvb⟩:=kv;refine hK.out _ _ (KS _ G5 H5 S5) (λxX=> ?_);clear hK K xK;refine sm ?_;refine QO 23 ?_;obtain⟨⟨r0,r1,r2,r3,r4,r5,r6⟩,rz⟩:=id R5;simp only[Nat.zero_add,bT] at r0 r1 r2 r3 r4 r5 r6;have fz:=F5.1;refine wpAnyH_ready (rs:=[24]) ac ae ?_;refine AllReadyH.cons rfl (λK hK=> ?_) AllReadyH.nil;go_simp;refine hK.out _ _ (KS _ (G5.put7 aa) (H5.put7 aa) (S5.put7 aa)) (λxX=> ?_);clear hK K;refine sm ?_;refine QO 25 ?_;refine wpAnyH_done ac ?_ _;generalize (if n=true then undef else(Pp (G ⟨R (M w)+1+1,0,E⟩):Value))=y0;generalize (if n=true then undef else(O h.n:Value))=y1;generalize (if t=true then undef else(Pp (G ⟨R (M w)+1+1,4,E⟩):Value))=y2;generalize (if t=true then undef else(O h.t:Value))=y3;generalize (if f=true then undef else(Pp (G ⟨R (M w)+1+1,5,E⟩):Value))=y4;generalize (if f=true then undef else(O h.f:Value))=y5;go_wp2;refine bodyPost_ret (v:=Tu #[.agg #[O (n||h.n),O J.n,I Y J.lo,I Y J.hi,O (t||h.t),O (f||h.f),U vs (X (dd [⟨n,sp,t,f,sl⟩,h])) vc],I Y 0]) (by simp[results,results123,go_sem,r0,r1,r2,r3,r4,r5,r6]) rfl ⟨_,rfl,?_,?_⟩
 .exact iz (iE O5 aa) aa
 .exact bP B5 aa):=h
def tI(h:p:=by
 have HW:=ag (λls lc w hL=>Ct ls [g,h] lc w ae hL);generalize ([g,h].any aT&& ![g,h].any aq)=wr at HW |-;go_enter func164,ntmps164;go_wp2_with fail;refine(fA V F s c cap _ [g,h] 2 _ (C0.alloc _) L0 ae).mono ?_;rintro e w1 ⟨rfl,vZ⟩;rw[HK.out];have G1:=dG;have H1:=gL;have R1:=iJ;have F1:=iK;have B1:=dB;clear vZ G0 H0 R0 I0 J0 F0 B0 C0 P0 L0 xC hs ht HK;obtain⟨⟨g0,g1,g2,g3,g4,g5,g6⟩,gz⟩:=id G1;obtain⟨⟨k0,k1,k2,k3,k4,k5,k6⟩,kz⟩:=id H1;simp only[Nat.zero_add] at g0 g1 g2 g3 g4 g5 g6 k0 k1 k2 k3 k4 k5 k6;go_wp2_with fail;refine(hJ.out _).mono ?_;rintro e w2 ⟨rfl,xj⟩;have G2:=G1.call xj;have H2:=H1.call xj;have R2:=R1.call xj;have F2:=F1.call xj;have B2:=fU;clear xj G1 H1 R1 F1 B1 g0 g1 g2 g3 g4 g5 g6 gz k0 k1 k2 k3 k4 k5 k6 kz hJ;go_wp2;have G3:=G2.alloc (A #[O J.n,I Y J.lo,I Y J.hi] 89);have H3:=H2.alloc (A #[O J.n,I Y J.lo,I Y J.hi] 89);have R3:=R2.alloc (A #[O J.n,I Y J.lo,I Y J.hi] 89);have F3:=F2.alloc (A #[O J.n,I Y J.lo,I Y J.hi] 89);have B3:=B2.alloc B2.size (A #[O J.n,I Y J.lo,I Y J.hi] 89);have S3:=a8v.new w2 J;have zj:R (M w)+1+1+1 < R (M w2):=F2.2;clear G2 H2 R2 F2 B2;generalize w2.alloc (A #[O J.n,I Y J.lo,I Y J.hi] 89)=w3 at *;generalize (R (M w2))=jb at *;have KS:=RO;refine wp_region_held_drew (S:=KN w jb g ss gc h st hc J) ac (KS _ G3.drew H3.drew S3.drew) (λxX=> ?_);unfold KN at xX KS |-;refine XI ?_;refine QO 3 ?_;have L3:a8n (yV w3 g ss gc h st hc).drew (G ⟨R (M w3),0,E⟩) [g,h]:=(a8n.new2 w3 g ss gc h st hc).call (bR _ _).drew;have G4:=NG;have H4:=NM;have R4:=NO;have F4:=Sj;have S4:=S3.alloc (A #[O g.n,O g.sp.n,I Y g.sp.lo,I Y g.sp.hi,O g.t,O g.f,U ss (X g.s) gc,O h.n,O h.sp.n,I Y h.sp.lo,I Y h.sp.hi,O h.t,O h.f,U st (X h.s) hc] 91);have B4:=(B3.alloc B3.size (A #[O g.n,O g.sp.n,I Y g.sp.lo,I Y g.sp.hi,O g.t,O g.f,U ss (X g.s) gc,O h.n,O h.sp.n,I Y h.sp.lo,I Y h.sp.hi,O h.t,O h.f,U st (X h.s) hc] 91)).drew;refine wpAnyH_ready (rs:=[4]) ac ae ?_;refine AllReadyH.cons rfl (λK hK=> ?_) AllReadyH.nil;go_simp;refine hK.out _ _ (KS _ G4.drew H4.drew S4.drew) (λxX=> ?_);clear hK K;refine sm ?_;refine wpAnyH_ready (rs:=[5]) ac ae ?_;refine AllReadyH.cons rfl (λK hK=> ?_) AllReadyH.nil;go_simp;refine(HW.out _ 2 _ L3).mono ?_;rintro e w5 ⟨rfl,xw⟩;have G5:=G4.drew.call xw;have H5:=H4.drew.call xw;have R5:=R4.drew.call xw;have F5:=F4.drew.call xw;have S5:=S4.drew.call xw;have B5:bl w w5:=B4.trans (xw.mono B4.size);clear xw G4 H4 R4 F4 S4 B4 L3 G3 H3 R3 F3 S3 B3;refine hK.out _ _ (KS _ G5 H5 S5) (λxX=> ?_);clear hK K;refine sm ?_;obtain⟨⟨r0,r1,r2,r3,r4,r5,r6⟩,rz⟩:=id R5;simp only[Nat.zero_add,bT] at r0 r1 r2 r3 r4 r5 r6;have fz:=F5.1;refine wpAnyH_ready (rs:=[6]) ac ae ?_;refine AllReadyH.cons rfl (λK hK=> ?_) AllReadyH.nil;go_simp;refine hK.out _ _ (KS _ (G5.put7 aa) (H5.put7 aa) (S5.put7 aa)) (λxX=> ?_);clear hK K;refine sm ?_;refine QO 7 ?_;refine QO 8 ?_;refine wpAnyH_done ac ?_ _;go_wp2;refine bodyPost_ret (v:=Tu #[gv ⟨false,J,false,false,[]⟩ E 0,O wr,I Y 0]) BN rfl ⟨rfl,?_⟩;exact bP B5 aa):=h
section
variable (h:Gs)(st:oA)(hc:Nat)(w:C)(xC:a2r w s c)(hs:yv w ss g.s)(h1:X g.s<=gc)(h2:gc<=maxLen)(ht:yv w st h.s)(h3:X h.s<=hc)(h4:hc<=maxLen)(j:aY V F c [g,h]=0)(hlen:X ([g,h].flatMap Gs.s)<=1000000)
def Km:
  Calls pG 123 #[pv V F s c cap,gv g ss gc,gv h st hc,.func (.func 124) #[] #[]] w λe w'=>∃v,e=Rt (Tu #[Ag #[O (g.n||h.n),O (bw g.sp h.sp).n,I Y (bw g.sp h.sp).lo,I Y (bw g.sp h.sp).hi,O (g.t||h.t),O (g.f||h.f),v],I Y 0])/\w'.ownsRow (R (M w)) 3 1 v (X (dd [g,h])) ((dd [g,h]).map (.int .i64))/\bl w w':=by
 obtain⟨m,G0,H0,R0,F0⟩:=fN;have B0:=fJ;have D:=fM;have I0:=fH;have J0:=fE;have l:=gB;simp only[j0] at l;have k:=λw=>a0q g.sp h.sp w;rw[gK j,show∀r,gR 0 r=r from λr=>rfl] at k;have hJ:=ag k;have u:=ag j;clear j k;generalize bw g.sp h.sp=J at hJ |-;go_enter func123,ntmps123;go_wp2_with fail;go_call fA V F s c cap _ [g,h] 2 _ (D.alloc _) l ae as e w1 ⟨rfl,vZ⟩;rw[u.out];have G1:=dG;have H1:=gL;have R1:=iJ;have I1:=eh;have J1:=ik;have F1:=iK;have B1:=dB;clear vZ G0 H0 R0 I0 J0 F0 B0 D m l xC hs ht u;obtain⟨⟨g0,g1,g2,g3,g4,g5,g6⟩,gz⟩:=id G1;obtain⟨⟨k0,k1,k2,k3,k4,k5,k6⟩,kz⟩:=id H1;simp only[j5] at g0 g1 g2 g3 g4 g5 g6 k0 k1 k2 k3 k4 k5 k6;go_wp2_with fail;exact Gv
def Kg:
  Calls pG 123 #[pv V F s c cap,gv g ss gc,gv h st hc,.func (.func 125) #[] #[]] w λe w'=>∃v,e=Rt (Tu #[Ag #[O (g.n||h.n),O (bH g.sp h.sp).n,I Y (bH g.sp h.sp).lo,I Y (bH g.sp h.sp).hi,O (g.t||h.t),O (g.f||h.f),v],I Y 0])/\w'.ownsRow (R (M w)) 3 1 v (X (dd [g,h])) ((dd [g,h]).map (.int .i64))/\bl w w':=by
 obtain⟨m,G0,H0,R0,F0⟩:=fN;have B0:=fJ;have D:=fM;have I0:=fH;have J0:=fE;have l:=gB;simp only[j0] at l;have k:=λw=>Wc g.sp h.sp w;rw[gK j,show∀r,gR 0 r=r from λr=>rfl] at k;have hJ:=ag k;have u:=ag j;clear j k;generalize bH g.sp h.sp=J at hJ |-;go_enter func123,ntmps123;go_wp2_with fail;go_call fA V F s c cap _ [g,h] 2 _ (D.alloc _) l ae as e w1 ⟨rfl,vZ⟩;rw[u.out];have G1:=dG;have H1:=gL;have R1:=iJ;have I1:=eh;have J1:=ik;have F1:=iK;have B1:=dB;clear vZ G0 H0 R0 I0 J0 F0 B0 D m l xC hs ht u;obtain⟨⟨g0,g1,g2,g3,g4,g5,g6⟩,gz⟩:=id G1;obtain⟨⟨k0,k1,k2,k3,k4,k5,k6⟩,kz⟩:=id H1;simp only[j5] at g0 g1 g2 g3 g4 g5 g6 k0 k1 k2 k3 k4 k5 k6;go_wp2_with fail;exact Gv
end
def LK{a:Nat}{e:TypeId}{z:Nat}{v:mh}{n:Nat}{xs:List mh}(h:w.ownsRow B e z v n xs)(T:a<=B):w.ownsRow a e z v n xs:=by
 obtain⟨q,t⟩:=h;refine⟨q,?_⟩;rcases t with t|⟨g,V,u,K,W,r⟩
 .exact .inl t
 .exact .inr ⟨g,V,u,K,lT T W,r⟩
def tQ:(Tryz.prog.info? 82).map (λi=>(i.zero,i.size,i.bytes))=G (G (Ag #[I Y 0,I Y 0]),2,16):=ac
def a9m (w:World)(b:Nat):Prop:=w.cell? ⟨b,0,E⟩=G (I Y 0)/\w.cell? ⟨b,1,E⟩=G (U E 0 0)/\w.cell? ⟨b,2,E⟩=G (U E 0 0)/\w.cell? ⟨b,3,E⟩=G (I Y 0)/\w.cell? ⟨b,4,E⟩=G (U E 0 0)/\w.cell? ⟨b,5,E⟩=G (I Y 0)/\(∀j,w.frozen? ⟨b,j,E⟩=false)/\b < R (M w)
def a9m.new (w:C):a9m (w.alloc (A #[I Y 0,U E 0 0,U E 0 0,I Y 0,U E 0 0,I Y 0] 33)) (R (M w)):=by
 refine⟨?_,?_,?_,?_,?_,?_,λj=> ?_,?_⟩<;>simp[go_sem]
def a9m.block(h:a9m w b)(hb:w'.heap[b]? =w.heap[b]?):a9m w' b:=by
 have y:=wU;have P:=Dz;obtain⟨T,q,t,z,c,n,e,u⟩:=h;refine⟨(y _).trans T,(y _).trans q,(y _).trans t,(y _).trans z,(y _).trans c,(y _).trans n,λj=>(P j).trans (e j),?_⟩;rw[Array.getElem?_eq_getElem u] at hb;exact(J6.1 hb).1
def a9m.call(h:a9m w b)(T:bl w w'):a9m w' b:=h.block (T.block _ h.2.2.2.2.2.2.2)

def a0h(w:C)(y:a2r w s c)(h0:aA V F c≠0):
  Calls pG 40 #[Ag #[I Y V,I Y F,U s (X c) cap]] w λe w'=>e=Rt (Tu #[Ag #[I Y 0,U E 0 0,U E 0 0,I Y 0,U E 0 0,I Y 0],I Y (aA V F c)])/\bl w w':=by
 have Z0:=a9m.new (w.alloc (A #[I Y V,I Y F,U s (X c) cap] 24));rw[j0] at Z0;have xO:n4 (R (M w)) w ((w.alloc (A #[I Y V,I Y F,U s (X c) cap] 24)).alloc (A #[I Y 0,U E 0 0,U E 0 0,I Y 0,U E 0 0,I Y 0] 33)):=ai;have Z:(aA V F c !=0)=true:=kG;go_enter func40,ntmps40;go_wp2_with fail;go_call fY V F s cap c _ (y.below xO (lR _)) as e K ⟨rfl,vZ⟩;have l:=kB;obtain⟨r0,r1,r2,r3,r4,r5,a,t⟩:=Z0.call vZ;go_wp2;refine bodyPost_ret (v:=Tu #[Ag #[I Y 0,U E 0 0,U E 0 0,I Y 0,U E 0 0,I Y 0],I Y (aA V F c)]) Vn rfl ⟨rfl,?_⟩;exact(((((l.setCell ae _).setCell ae _).setCell ae _).setCell ae _).setCell ae _).setCell ae _
def RE(w:C)(y:a2r w s c)(T:aA (v:Int) F c=0):
  Calls pG 40 #[Ag #[I Y v,I Y F,U s (X c) cap]] w λe w'=>∃g,e=Rt (Tu #[Ag #[I Y 0,U (G ⟨g,0,E⟩) v v,U E 0 0,I Y 0,U E 0 0,I Y 0],I Y 0])/\w'.ownsRow (R (M w)) 82 2 (U (G ⟨g,0,E⟩) v v) v (madeCells (Value.agg #[I Y 0,I Y 0]).cells (v * 2)).toList/\bl w w':=by
 obtain⟨z,hi,o,V,qt⟩:=info_parts tQ;have i:v<=8:=by have:=(SU T).1;omega
 have Z0:=a9m.new (w.alloc (A #[I Y (v:Int),I Y F,U s (X c) cap] 24));rw[j0] at Z0;have xO:n4 (R (M w)) w ((w.alloc (A #[I Y (v:Int),I Y F,U s (X c) cap] 24)).alloc (A #[I Y 0,U E 0 0,U E 0 0,I Y 0,U E 0 0,I Y 0] 33)):=ai;have n:=fY (v:Int) F s cap c _ (y.below xO (lR _));rw[T] at n;have pv:∀r,n4 (R (M ((w.alloc (A #[I Y (v:Int),I Y F,U s (X c) cap] 24)).alloc (A #[I Y 0,U E 0 0,U E 0 0,I Y 0,U E 0 0,I Y 0] 33)))) ((w.alloc (A #[I Y (v:Int),I Y F,U s (X c) cap] 24)).alloc (A #[I Y 0,U E 0 0,U E 0 0,I Y 0,U E 0 0,I Y 0] 33)) r->r.cell? ⟨R (M w),0,E⟩=G (I Y (v:Int)):=λr N=>by rw[N.cell (by simp;omega)];simp[go_sem]
 go_enter func40,ntmps40;go_wp2_with fail;go_call n as e K ⟨rfl,vZ⟩;have l:=kB;have B:=pv K vZ;have Z1:=Z0.call vZ;have z1:R (M w)+1+1<=R (M K):=by have:=vZ.size;simpa using this
 clear n pv Z0 vZ xO;go_wp2_with (refine wpList_make_full _ rfl _ _ 29 rfl (R (M w)+1+1) 82 z (Ag #[I Y 0,I Y 0]) 2 underlying29 hi o V .i64 .i64 (v:Int) (v:Int) v rfl rfl rfl rfl Bl cL z1 ?_;intro k D m;obtain⟨r0,r1,r2,r3,r4,r5,H,t⟩:=a9m.block Z1 (m.block _ Z1.2.2.2.2.2.2.2 (λe=>by cases e)));have q:bl w k:=l.grown m l.size (λj Q=>by cases Q);refine bodyPost_ret (v:=Tu #[Ag #[I Y 0,U (G ⟨R (M K),0,E⟩) v v,U E 0 0,I Y 0,U E 0 0,I Y 0],I Y 0]) Vn rfl ⟨_,rfl,?_,?_⟩
 .have u:R (M w)+1 < R (M w)+1+1:=by omega
  exact LK (ownsRow_setCell_below (a:=⟨R (M w)+1,5,E⟩) (ownsRow_setCell_below (a:=⟨R (M w)+1,4,E⟩) (ownsRow_setCell_below (a:=⟨R (M w)+1,3,E⟩) (ownsRow_setCell_below (a:=⟨R (M w)+1,2,E⟩) (ownsRow_setCell_below (a:=⟨R (M w)+1,1,E⟩) (ownsRow_setCell_below (a:=⟨R (M w)+1,0,E⟩) D u _) u _) u _) u _) u _) u _) (show R (M w)<=R (M w)+1+1 by omega)
 .exact(((((q.setCell ae _).setCell ae _).setCell ae _).setCell ae _).setCell ae _).setCell ae _
end
section
open Go.RowKit
attribute [local go_sem ↓] Go.wp_at_zero Go.wp_at_succ
def yU:∀f:Nat,f<=8->(madeCells (Value.agg #[I Y 0,I Y 0]).cells (f * 2)).toList=cw (x7 f ⟨0,0⟩)
 |0,_=>ac
 |1,_=>ac
 |2,_=>ac
 |3,_=>ac
 |4,_=>ac
 |5,_=>ac
 |6,_=>ac
 |7,_=>ac
 |8,_=>ac
 |n+9,h=>absurd h aa
def Dh:(Tryz.prog.info? 84).map (λi=>(i.zero,i.size,i.bytes))=G (G (Ag #[I Y 0,U E 0 0]),2,32):=ac
def a7a.tform{m:Nat}{s:St}{o z l:mh}{D:List mh}(h:a7a w B m s o z l D):∃a V,z=U a (X s.things) V:=by
 rcases h.things.2 with⟨hv,hn⟩|⟨g,c,u,hv,_⟩
 .exact⟨E,0,m8⟩
 .exact⟨_,_,hv⟩
def a0K(B:Nat)(s:St)(o z l:mh)(D:List mh)(t a b n g:Int)(w:C)(h:a7a w B m s o z l D)(W:B<=R (M w))(H:X s.things=100):
  Calls pG 149 #[Pp (G ⟨m,0,E⟩),Ag #[I Y 11,I Y t,I Y a,I Y b,I Y n,I Y g]] w λe w'=>e=Rt (I Y 5)/\a7p w w' B m (aP m o z l D) s:=by
 have F:=bV;obtain⟨k,V,rfl⟩:=h.tform;have q:=h.things_;rw[H] at q;have c:=EE;have y:∀j,(w.alloc (A #[I Y 11,I Y t,I Y a,I Y b,I Y n,I Y g] 100)).cell? ⟨m,j,E⟩=w.cell? ⟨m,j,E⟩:=λj=>c.cell F;have HX:=aL (And.intro (h.below c) (And.intro (c.mono W) (And.intro y c)));have i:(w.alloc (A #[I Y 11,I Y t,I Y a,I Y b,I Y n,I Y g] 100)).cell? ⟨m,2,E⟩=G (U k ((100:Nat)) V):=by rw[y];exact q
 clear h y c q;go_enter func149,ntmps149;go_wp2;go_ret;exact RL
def a3f(B t f:Nat)(s:St)(o z l:mh)(D:List mh)(a b n g:Int)(w:C)(h:a7a w B m s o z l D)(W:B<=R (M w))(F:t < X s.vq)(H:X s.things < 100)(hf:f<=3)(y:w.cell? ⟨m,7,E⟩=G (I Y f)):
  Calls pG 149 #[Pp (G ⟨m,0,E⟩),Ag #[I Y 11,I Y t,I Y a,I Y b,I Y n,I Y g]] w λe w'=>e=Rt (I Y 0)/\a7p w w' B m (aP m o z l D) {s with vq:=s.vq.set t ⟨3,X s.things⟩,things:=s.things++[⟨s.at_,x7 f ⟨0,0⟩⟩]}:=by
 have hm:=bV;have bf:=h.low;have z1:=eS;obtain⟨ti,hi,a9,a4,qt⟩:=info_parts tQ;obtain⟨tj,hj,ba,bm,a6⟩:=info_parts Dh;obtain⟨gb,ap,rfl,a1,zh,al,zQ⟩:=dC;obtain⟨ts,V,rfl⟩:=h.tform;have am:=eQ;have q1:=h.vars_;have q2:=h.things_;obtain⟨qU,qV⟩:=al t F;have bt:=gG;have bv:=iq;have f0:=gC;have f1:=gH;have nT:((X s.things:Int)==100)=false:=au;have K1:∀wx,n4 (R (M w)+1) (w.alloc (A #[I Y 11,I Y t,I Y a,I Y b,I Y n,I Y g] 100)) wx->wx.cell? ⟨m,1,E⟩=G (U (G ⟨gb,0,E⟩) (X s.vq) ap)/\wx.cell? ⟨R (M w),1,E⟩=G (I Y t)/\wx.cell? ⟨m,2,E⟩=G (U ts (X s.things) V):=by
  intro wx T;rw[T.cell gp,T.cell ae,T.cell gp];simp[go_sem,hm,q1,q2]
 have a7:(w.alloc (A #[I Y 11,I Y t,I Y a,I Y b,I Y n,I Y g] 100)).cell? ⟨m,2,E⟩=G (U ts (X s.things) V):=(K1 _ (bR _ _)).2.2;have HW:n4 (R (M w)) w (w.alloc (A #[I Y 11,I Y t,I Y a,I Y b,I Y n,I Y g] 100)).drew:=ai;have oL:=h.below HW;have oP:=oL.put t F ⟨3,X s.things⟩;have HP:n4 B w (((w.alloc (A #[I Y 11,I Y t,I Y a,I Y b,I Y n,I Y g] 100)).drew.setCell ⟨gb,t * 2,E⟩ (I Y 3)).setCell ⟨gb,t * 2+1,E⟩ (I Y (X s.things))):=((HW.mono W).setCell a1 _).setCell a1 _;have ak:∀j,(((w.alloc (A #[I Y 11,I Y t,I Y a,I Y b,I Y n,I Y g] 100)).drew.setCell ⟨gb,t * 2,E⟩ (I Y 3)).setCell ⟨gb,t * 2+1,E⟩ (I Y (X s.things))).cell? ⟨m,j,E⟩=w.cell? ⟨m,j,E⟩:=λj=>iF;have HX:=aL (And.intro oP (And.intro HP (And.intro ak (dU (bs:=aP m (U (G ⟨gb,0,E⟩) (X s.vq) ap) (U ts (X s.things) V) l D) HW (g:=gb) (by simp only[aP,j3];right;left;rfl) (t * 2) (t * 2+1) (I Y 3) (I Y (X s.things))))));clear al zQ q2 oP HP ak oL;go_enter func149,ntmps149;go_wp2;refine XK [15] ac K1 (bR _ _).drew (λab=> ?_);refine QQ ?_;refine QS ?_;refine QN 14 ?_;refine aM (i:=15) rfl ac ac (λK r=> ?_);have c0:(w.alloc (A #[I Y 11,I Y t,I Y a,I Y b,I Y n,I Y g] 100)).drew.cell? ⟨gb,t * 2,E⟩=G (I Y s.vq[t].k):=Vp;have c1:(w.alloc (A #[I Y 11,I Y t,I Y a,I Y b,I Y n,I Y g] 100)).drew.cell? ⟨gb,t * 2+1,E⟩=G (I Y s.vq[t].n):=U0;have d0:(w.alloc (A #[I Y 11,I Y t,I Y a,I Y b,I Y n,I Y g] 100)).drew.frozen? ⟨gb,t * 2,E⟩=false:=Vz;have d1:(w.alloc (A #[I Y 11,I Y t,I Y a,I Y b,I Y n,I Y g] 100)).drew.frozen? ⟨gb,t * 2+1,E⟩=false:=Vk;generalize (w.alloc _).drew=wl at *;go_simp;refine r.out _ _ ?_;clear r K;refine sm ?_;refine aB ac ?_ _;obtain⟨oP,HP,ar,ax⟩:=HX.out;have ak:=aL ar;have bg:=aL ax;clear ar ax;clear HX K1 a7 HW c0 c1 d0 d1 ab;generalize (wl.setCell _ _).setCell _ _=w2 at *;have p2:=oP.things_;have p0:=oP.at_;have p7:w2.cell? ⟨m,7,E⟩=G (I Y f):=by rw[ak.out 7];exact y
 have ao:m < R (M w2):=oP.lt fL;have KZ:∀wx,bl w2 wx->wx.cell? ⟨m,2,E⟩=G (U ts (X s.things) V)/\wx.cell? ⟨m,0,E⟩=G (I Y s.at_)/\wx.cell? ⟨m,7,E⟩=G (I Y f):=λwx N=>⟨by rw[N.cell (by simpa using ao)];exact p2,by rw[N.cell (by simpa using ao)];exact p0,by rw[N.cell (by simpa using ao)];exact p7⟩;go_wp2;refine XK [23] ac KZ (bR _ _).drew (λab=> ?_);refine QQ ?_;refine QS ?_;refine XH ?_;refine av (i:=16) rfl ac (λK r=> ?_);refine IM rfl _ _ 29 rfl B 82 ti (Ag #[I Y 0,I Y 0]) 2 underlying29 hi a9 a4 .i64 .i64 (f:Int) (f:Int) f rfl rfl rfl rfl Bl cL au ?_;intro wm ah bb;have ay:bl w2 wm:=Below.grown (bR _ _).drew bb ae (λk Z=>by cases Z);rw[yU f aa] at ah;have zm:R (M w2) < R (M wm):=by
  have:=aW ah (k:=R (M w2)) rfl;exact this.1
 refine r.out _ _ (KZ _ ay) (λab=> ?_);clear r K;refine sm ?_;refine QN 17 ?_;refine av (i:=18) rfl ac (λK r=> ?_);go_simp;have af:bl w2 (wm.alloc (A #[I Y s.at_,U (G ⟨R (M w2),0,E⟩) f f] 84)):=ay.alloc ay.size _;refine r.out _ _ (KZ _ af) (λab=> ?_);clear r K;refine sm ?_;refine av (i:=19) rfl ac (λK r=> ?_);have a5:n4 (R (M wm)) wm (wm.alloc (A #[I Y s.at_,U (G ⟨R (M w2),0,E⟩) f f] 84)):=ai;have o2:=oP.below af;have a8:a7o (wm.alloc (A #[I Y s.at_,U (G ⟨R (M w2),0,E⟩) f f] 84)) B (U (G ⟨R (M w2),0,E⟩) f f) (x7 f ⟨0,0⟩):=by
  unfold a7o;rw[X0];exact aG ah (λk Z=>a5.block k (aW ah Z).1)
 have bc:∀k,(q8 (G ⟨R (M w2),0,E⟩) f f).ownBlock=G k->G k∉aP m (U (G ⟨gb,0,E⟩) (X s.vq) ap) (U ts (X s.things) V) l D:=λk Z a0=>by
  cases Z;exact Q1 _ (oP.lt a0)
 obtain⟨p1,-,p3,-,-⟩:=o2.parted;refine step_append_lies _ rfl _ _ 30 rfl B 84 tj (Ag #[I Y 0,U E 0 0]) 2 32 underlying30 hj ba bm a6 rfl an _ _ _ rfl o2.things ⟨R (M wm),0,E⟩ 1 1 [I Y s.at_,U (G ⟨R (M w2),0,E⟩) f f] rfl rfl (λj u hj=>World.news_of_block (heap_alloc_new _ _) j u hj) Kd aa (by simp only;unfold maxLen;omega) aw (by have:=HP.size;have:=af.size;omega) _ rfl ?_;intro gl cl w3 a2 ad be bx;have nm:G m≠(q8 ts (X s.things) V).ownBlock:=λe=>p1 m sI rfl;have far:∀j,w3.cell? ⟨m,j,E⟩=w2.cell? ⟨m,j,E⟩:=λj=>by rw[ad.cell_far ⟨m,j,E⟩ (by have:=af.size;simp at this |-;omega) nm,af.cell (by simpa using ao)]
 have a3:w3.cell? ⟨m,2,E⟩=G (U ts (X s.things) V)/\w3.cell? ⟨m,0,E⟩=G (I Y s.at_)/\w3.cell? ⟨m,7,E⟩=G (I Y f):=⟨by rw[far];exact p2,by rw[far];exact p0,by rw[far];exact p7⟩;have az:=aL far;clear far;refine r.out _ _ a3 (λab=> ?_);clear r K;refine sm ?_;refine QN 20 ?_;refine QN 21 ?_;refine QN 22 ?_;refine aM (i:=23) rfl ac ac (λK r=> ?_);have d4:w3.frozen? ⟨m,2,E⟩=false:=by rw[ad.frozen_far ⟨m,2,E⟩ (by have:=af.size;simp at this |-;omega) nm];exact o2.thaw 2
 go_simp;refine r.out _ _ ?_;clear r K;refine sm ?_;refine aB ac ?_ _;go_wp2;go_ret;have HW:n4 B w w3:=Below.grown (HP.trans (af.mono (by have:=HP.size;omega))) ad (by have:=HP.size;have:=af.size;omega) (λk Z=>(aW o2.things Z).2)
 refine⟨rfl,⟨_,_,_,_,o2.grow_things a8 bc a2 ad (be.imp id (λe=>by rw[e];exact lR _))⟩,HW.setCell bf _,λj hj=> ?_,dl bg.out HP.size (dl (ed af) af.size (GQ ad (λk Z=>by have e:(q8 ts (X s.things) V).ownBlock=G k:=Z;unfold aP;rw[e];simp) fL _ _))⟩;rw[x8 _ _ _ _ pC,az.out,ak.out]
def uM(h:p:=by
 intro v' w1 xK xJ xY;go_wp2;go_ret;refine⟨v',rfl,by simpa using xK,?_⟩;exact((bR _ w).alloc (lR _) _).grown xJ ae Kw):=h
def uh(h:p:=by
 go_wp2;go_ret;refine⟨_,rfl,?_,bR _ _⟩;rw[HX.out];(try rw[hz]);exact World.ownsRow_nil _ _ _ _):=h
def ux(h:p:=by
 intro ad' e j u hj;cases e;have:=HN.out ad rfl j u hj;exact Lib.cell?_alloc_some _ this):=h
def FH(l:List Val)(w:C)(hs:a7j w ss l)(g:X l * 16<=140737488355328):
  Calls pG 83 #[U ss (X l) i] w λe w'=>∃v',e=Rt v'/\w'.ownsRow (R (M w)) 82 2 v' (X l) (cw l)/\bl w w':=by
 obtain⟨F,hi,o,V,D⟩:=info_parts tQ;have q:∀(w:C) (a:oA) (n c y t:Nat),(binOp .eql 29 (U a n c) (U E y t)).run pG w=.ok (O a.isNone) w:=λw a n c y t=>Lib.run_eql_slice_nil w _ _ a n c y t underlying29;have HN:=aL (hs.news);have T:=hs.nil;have s:X l<=maxLen:=cL;cases ss with
 |none=>
  have hz:X l=0:=T rfl;have HX:Hid ((cw l)=[]):=by
   show _=_;apply J8;have:=(g9 l);omega
  clear HN s;go_enter func83,ntmps83;exact uh
 |some ad=>
  go_enter func83,ntmps83;go_wp2_with (at_builtin;refine bn _ rfl _ _ 29 rfl (R (M w)) 82 F (Ag #[I Y 0,I Y 0]) 2 16 underlying29 hi o V D rfl an _ _ _ rfl (q9 w #[] 0 (lR _) (j1 _) rfl) (G ad) (X l) i (cw l) rfl ?qc1 (λh=>bU) ?qc2 ?qc3 ?qc4 ?qc5 ?qc6 ?_)
  case qc1=>exact(g9 l)
  case qc2=>
   exact ux
  case qc3=>exact(DY l)
  case qc4=>simpa using s
  case qc5=>simpa using g
  case qc6=>simp
  exact uM

def WD(l:List ByteArray)(w:C)(hs:a8o w ss l)(g:X l * 16<=140737488355328):
  Calls pG 84 #[U ss (X l) i] w λe w'=>∃v',e=Rt v'/\w'.ownsRow (R (M w)) 9 1 v' (X l) (l.map x9)/\bl w w':=by
 obtain⟨F,hi,o,V,D⟩:=info_parts DZ;have q:∀(w:C) (a:oA) (n c y t:Nat),(binOp .eql 31 (U a n c) (U E y t)).run pG w=.ok (O a.isNone) w:=λw a n c y t=>Lib.run_eql_slice_nil w _ _ a n c y t underlying31;have HN:=aL (hs.news);have T:=hs.nil;have s:X l<=maxLen:=cL;cases ss with
 |none=>
  have hz:X l=0:=T rfl;have HX:Hid ((l.map x9)=[]):=by
   show _=_;apply J8;have:=(show X (l.map x9)=X l * 1 by simp);omega
  clear HN s;go_enter func84,ntmps84;exact uh
 |some ad=>
  go_enter func84,ntmps84;go_wp2_with (at_builtin;refine bn _ rfl _ _ 31 rfl (R (M w)) 9 F (.string ⟨#[]⟩) 1 16 underlying31 hi o V D rfl an _ _ _ rfl (q9 w #[] 0 (lR _) (j1 _) rfl) (G ad) (X l) i (l.map x9) rfl ?qc1 (λh=>bU) ?qc2 ?qc3 ?qc4 ?qc5 ?qc6 ?_)
  case qc1=>exact(show X (l.map x9)=X l * 1 by simp)
  case qc2=>
   exact ux
  case qc3=>exact(MG l)
  case qc4=>simpa using s
  case qc5=>simpa using g
  case qc6=>simp
  exact uM

def WA(l:List Int)(m:List mh)(w:C)(Z:X m=X l)(z:ss=none->X l=0)(r:∀ad,ss=G ad->∀j u,(cd l m)[j]? =G u->w.cell? (ad.add j)=G u)(o:∀v∈m,v.oneCell'=W5)(g:X l * 32<=140737488355328):
  Calls pG 85 #[U ss (X l) i] w λe w'=>∃v',e=Rt v'/\w'.ownsRow (R (M w)) 84 2 v' (X l) (cd l m)/\bl w w':=by
 obtain⟨F,hi,H,V,D⟩:=info_parts Dh;have q:∀(w:C) (a:oA) (n c y t:Nat),(binOp .eql 30 (U a n c) (U E y t)).run pG w=.ok (O a.isNone) w:=λw a n c y t=>Lib.run_eql_slice_nil w _ _ a n c y t underlying30;have HN:=aL (r);have T:=z;have s:X l<=maxLen:=cL;cases ss with
 |none=>
  have hz:X l=0:=T rfl;have HX:Hid ((cd l m)=[]):=by
   show _=_;apply J8;have:=(i8 l m Z);omega
  clear HN s;go_enter func85,ntmps85;exact uh
 |some ad=>
  go_enter func85,ntmps85;go_wp2_with (at_builtin;refine bn _ rfl _ _ 30 rfl (R (M w)) 84 F (Ag #[I Y 0,U E 0 0]) 2 32 underlying30 hi H V D rfl an _ _ _ rfl (q9 w #[] 0 (lR _) (j1 _) rfl) (G ad) (X l) i (cd l m) rfl ?qc1 (λh=>bU) ?qc2 ?qc3 ?qc4 ?qc5 ?qc6 ?_)
  case qc1=>exact(i8 l m Z)
  case qc2=>
   exact ux
  case qc3=>exact(Px l m o)
  case qc4=>simpa using s
  case qc5=>simpa using g
  case qc6=>simp
  exact uM
section
variable {w w':World} {b:Nat} {x0 x1 x2 x3 x4 x5:Value}
section
variable (h:R6 w b x0 x1 x2 x3 x4 x5)
def R6.put1(y:mh):R6 (w.setCell ⟨b,1,E⟩ y) b x0 y x2 x3 x4 x5:=by
 obtain⟨⟨h0,q,t,h3,c,h5⟩,h6,h7⟩:=h;exact⟨⟨Kq,iC q _,by rw[bD (by omega)];exact t,Kx,by rw[bD (by omega)];exact c,KD⟩,pi,λj=>pk⟩
def R6.put2(y:mh):R6 (w.setCell ⟨b,2,E⟩ y) b x0 x1 y x3 x4 x5:=by
 obtain⟨⟨h0,h1,t,h3,c,h5⟩,h6,h7⟩:=h;exact⟨⟨Kq,KW,iC t _,Kx,by rw[bD (by omega)];exact c,KD⟩,pi,λj=>pk⟩
def R6.put4(y:mh):R6 (w.setCell ⟨b,4,E⟩ y) b x0 x1 x2 x3 y x5:=by
 obtain⟨⟨h0,h1,t,h3,c,h5⟩,h6,h7⟩:=h;exact⟨⟨Kq,KW,by rw[bD (by omega)];exact t,Kx,iC c _,KD⟩,pi,λj=>pk⟩
def R6.far{a:Addr}(F:a.block≠b)(y:mh):R6 (w.setCell a y) b x0 x1 x2 x3 x4 x5:=h.same (hSe _ _ _ _ (Ne.symm F)) bI
end
section
variable {B:Nat}{e:TypeId}{z:Nat}{v:mh}{n:Nat}{xs:List mh}(h:w.ownsRow B e z v n xs)
def eF{a:Addr}(F:v.ownBlock≠G a.block)(y:mh):(w.setCell a y).ownsRow B e z v n xs:=
 aG h (λk Z=>hSe _ _ _ _ (λe=>F (by rw[Z,e])))
def di(T:bl w w'):w'.ownsRow B e z v n xs:=
 aG h (λk Z=>T.block k (aW h Z).1)
def eP{k:Nat}(Z:k < B):v.ownBlock≠G k:=λe=>by have:=(aW h e).2;omega
end
end
structure a9n (w wr:World) (r:St) (fo fn:List Value) (vv tv lv:Value):Prop where
 low:bl w wr
 run:R6 wr w.heap.size (I Y r.at_) vv tv (I Y r.taken) lv (I Y r.fin)
 res:R6 wr (w.heap.size+1) (I Y 0) (U E 0 0) (U E 0 0) (I Y 0) (U E 0 0) (I Y 0)
 vq:a7o wr (w.heap.size+1+1) vv r.vq
 lines:wr.ownsRow (w.heap.size+1+1) 9 1 lv r.lines.length (r.lines.map .string)
 things:wr.ownsRow (w.heap.size+1+1) 84 2 tv r.things.length (cd (r.things.map (·.site)) (fn++fo.drop fn.length))
 le:fn.length<=r.things.length
 old:fo.length=r.things.length
 fields:∀j (h:j < fn.length),a7o wr (w.heap.size+1+1) fn[j] (r.things[j]'(lL h le)).fs
 apart:(vv.ownBlock::tv.ownBlock::lv.ownBlock::fn.map J4).Pairwise λa b=>∀x,a=G x->b≠G x
def a9n.rows{wr:C}{r:St}{m fn:List mh}{o z l:mh}(h:a9n w wr r m fn o z l)(Q:X fn=X r.things):a7f wr (R (M w)+1+1) r o z l fn:=by
 have F:=h.things;rw[Q,<-h.old,List.drop_length,Z7] at F;rw[h.old] at F;exact⟨h.vq,F,Q,λi hi=>h.fields i aa,h.lines,h.apart⟩
def a9n.step{wr w1:C}{r:St}{m fn:List mh}{o l s:mh}{c V:Nat}(h:a9n w wr r m fn o (U (G ⟨c,0,E⟩) (X r.things) V) l)(H:X fn < X r.things)(hb:bl wr w1)(K:a7o w1 (R (M wr)) s r.things[X fn].fs):
  a9n w (w1.setCell ⟨c,X fn * 2+1,E⟩ s) r m (fn++[s]) o (U (G ⟨c,0,E⟩) (X r.things) V) l:=by
 have t:=h.apart;simp only[j4] at t;obtain⟨T,y,a3,a4⟩:=t;have W:=aW h.things (k:=c) rfl;have u:=h.low.size;have v:=h.res.2.1;have z:∀k,o.ownBlock=G k->k < R (M wr):=λk Z=>(aW h.vq Z).1;have D:∀k,l.ownBlock=G k->k < R (M wr):=λk Z=>(aW h.lines Z).1;have B:∀k,G k∈fn.map J4->k < R (M wr):=λk Z=>by
  obtain⟨x,N,ad⟩:=z7.1 Z;obtain⟨i,hi,rfl⟩:=Q2 N;exact(aW (h.fields i hi) ad).1
 have g:∀k,k < R (M wr)->s.ownBlock≠G k:=λk Z=>eP K Z;have af:o.ownBlock≠G c:=λe=>T (G c) kL c e rfl;have ab:l.ownBlock≠G c:=λe=>y l.ownBlock ae c rfl e;have ah:∀i (hi:i < X fn),fn[i].ownBlock≠G c:=λi hi e=>y (G c) (by simp only[j3];right;exact z7.2 ⟨_,gM hi,e⟩) c rfl rfl;refine⟨(h.low.trans (hb.mono u)).setCell aw _,(h.run.call hb).far aw _,(h.res.call hb).far aw _,eF (di h.vq hb) af _,eF (di h.lines hb) ab _,?_,au,h.old,λj Q=> ?_,?_⟩
 .have F:=di h.things hb
  have hs:=(F.stored (X fn * 2+1) s).1;have n:X (fn++m.drop (X fn))=X (r.things.map (·.site)):=by have:=h.old;have:=h.le;simp;omega
  rw[Au _ _ n (X fn) (by rw[n];simpa using H)] at hs;have e:(fn++m.drop (X fn)).set (X fn) s=(fn++[s])++m.drop (X (fn++[s])):=by
   have hd:m.drop (X fn)=m[X fn]'(by rw[h.old];exact H)::m.drop (X fn+1):=Q6 _;rw[List.set_append_right _ _ (lR _),Nat.sub_self,hd];simp only[List.set_cons_zero,x6,List.length_cons,X2,List.append_assoc,List.cons_append,z8,j5]
  rw[e] at hs;exact hs
 .by_cases q:j < X fn
  .have e:(fn++[s])[j]=fn[j]:=X4 q
   rw[e];exact eF (di (h.fields j q) hb) (ah j q) _
  .have e:j=X fn:=by simp at Q;omega
   subst e;have e:(fn++[s])[X fn]=s:=ae;rw[e];exact eF (cW K aa) (g c W.1) _
 .simp only[j4]
  refine⟨λb hb x N e=> ?_,λb hb x N e=> ?_,λb hb x N e=> ?_,?_⟩
  .simp only[j8,j6,j7,j3,z9,Q3,or_false] at hb
   rcases hb with hb|hb|hb|hb
   .exact T b (by simp[hb]) x N e
   .exact T b (by simp[hb]) x N e
   .exact T b Uw x N e
   .subst hb;exact g x (z x N) e
  .simp only[j8,j6,j7,j3,z9,Q3,or_false] at hb
   rcases hb with hb|hb|hb
   .exact y b (by simp[hb]) x N e
   .exact y b Uw x N e
   .subst hb
    cases N;exact g c W.1 e
  .simp only[j8,j6,j7,z9,j3,Q3,or_false] at hb
   rcases hb with hb|hb
   .exact a3 b hb x N e
   .subst hb;exact g x (D x N) e
  .rw[j8]
   refine X5.2 ⟨a4,ae,λa ha b hb x N e=> ?_⟩;simp only[j6,j7,J5] at hb;subst hb;subst N;exact g x (B x ha) e
structure CpR (w wr:World) (r:St) (ts:oA) (tc:Nat) (k:Nat) (fn:List Value) (vv tv lv:Value):Prop where
 low:bl w wr
 run:R6 wr w.heap.size (I Y r.at_) vv (U ts r.things.length tc) (I Y r.taken) lv (I Y r.fin)
 res:R6 wr (w.heap.size+1) (I Y 0) (U E 0 0) (U E 0 0) (I Y 0) (U E 0 0) (I Y 0)
 vq:a7o wr (w.heap.size+1+1) vv r.vq
 lines:wr.ownsRow (w.heap.size+1+1) 9 1 lv r.lines.length (r.lines.map .string)
 things:wr.ownsRow (w.heap.size+1+1) 84 2 tv k (cd ((r.things.take k).map (·.site)) fn)
 le:k<=r.things.length
 len:fn.length=k
 fields:∀j (h:j < fn.length),a7o wr (w.heap.size+1+1) fn[j] (r.things[j]'(by rw[len] at h;exact lL h le)).fs
 apart:(vv.ownBlock::tv.ownBlock::lv.ownBlock::fn.map J4).Pairwise λa b=>∀x,a=G x->b≠G x
def lC{z:Nat}{v:mh}{n:Nat}{xs:List mh}(h:w.ownsRow B e z v n xs)(P:w.grownBy w' a)(j:∀k,v.ownBlock=G k->G k≠a):w'.ownsRow B e z v n xs:=
 aG h (λk Z=>P.block k (aW h Z).1 (j k Z))
def CpR.step{wr w1 n:C}{r:St}{B:oA}{V k:Nat}{fn:List mh}{o z l s:mh}{g cap:Nat}(h:CpR w wr r B V k fn o z l)(H:k < X r.things)(T:bl wr w1)(K:a7o w1 (R (M wr)) s r.things[k].fs)(D:n.ownsRow (R (M w)+1+1) 84 2 (U (G ⟨g,0,E⟩) (k+1) cap) (k+1) (cd ((r.things.take k).map (·.site)) fn++[I Y r.things[k].site,s]))(m:w1.grownBy n z.ownBlock)(Q:z.ownBlock=G g\/g=R (M w1)):
  CpR w n r B V (k+1) (fn++[s]) o (U (G ⟨g,0,E⟩) (k+1) cap) l:=by
 have ar:=h.apart;simp only[j4] at ar;obtain⟨a1,a2,a3,a4⟩:=ar;have u:=h.low.size;have Z:=T.size;have a5:=h.res.2.1;have af:∀x,z.ownBlock=G x->x < R (M wr)/\R (M w)+1+1<=x:=λx N=>aW h.things N;have ao:∀x,o.ownBlock=G x->x < R (M wr):=λx N=>(aW h.vq N).1;have ax:∀x,l.ownBlock=G x->x < R (M wr):=λx N=>(aW h.lines N).1;have ap:∀x,G x∈fn.map J4->x < R (M wr):=λx N=>by
  obtain⟨y,v,az⟩:=z7.1 N;obtain⟨i,hi,rfl⟩:=Q2 v;exact(aW (h.fields i hi) az).1
 have ab:∀x,x < R (M wr)->s.ownBlock≠G x:=λx N=>eP K N;have ad:∀x,x < R (M w)+1+1->G x≠z.ownBlock:=λx N e=>by have:=(af x e.symm).2;omega
 have am:∀x,o.ownBlock=G x->G x≠z.ownBlock:=λx N e=>a1 z.ownBlock (Q5 ..) x N e.symm;have ay:∀x,l.ownBlock=G x->G x≠z.ownBlock:=λx N e=>a2 _ (Q5 ..) x e.symm N;have al:∀x,G x∈fn.map J4->G x≠z.ownBlock:=λx N e=>a2 _ (J9 _ N) x e.symm rfl;have ak:∀x,s.ownBlock=G x->G x≠z.ownBlock:=λx N e=>ab x (af x e.symm).1 N;have P:∀x,x < R (M w1)->G x≠z.ownBlock->x≠g:=λx q t e=>by
  rcases Q with e'|e'
  .exact t (by rw[e',e])
  .omega
 have b1:bl w w1:=h.low.trans (T.mono u);refine⟨b1.grown m b1.size (λx N=>by have:=(af x N).2;omega),(h.run.call T).same (m.block _ aa (ad _ aa)) m.size,(h.res.call T).same (m.block _ aa (ad _ aa)) m.size,lC (di h.vq T) m am,lC (di h.lines T) m ay,?_,H,by simp[h.len],λj hj=> ?_,?_⟩
 .rw[Q9 H,j8,j6,j7,nU _ _ (by have:=h.len;simp;omega)]
  exact D
 .have W:=h.len
  by_cases ah:j < X fn
  .have e:(fn++[s])[j]=fn[j]:=X4 ah
   rw[e];exact lC (di (h.fields j ah) T) m (λx N=>al x (z7.2 ⟨_,gM ah,N⟩))
  .have e:j=X fn:=by simp at hj;omega
   subst e;have e:(fn++[s])[X fn]=s:=ae;rw[e];have e2:r.things[X fn]'(by omega)=r.things[k]:=by simp only[W]
   rw[e2];exact lC (cW K aa) m ak
 .refine j4.2 ⟨λb c x N e=> ?_,j4.2 ⟨λb c x N e=> ?_,j4.2 ⟨λb c x N e=> ?_,?_⟩⟩⟩
  .rw[j8] at c
   rcases j3.1 c with rfl|c
   .cases e
    exact P g (lL (ao g N) Z) (am g N) rfl
   .rcases j3.1 c with rfl|c
    .exact a1 l.ownBlock (J9 _ (Q5 ..)) x N e
    .rcases z9.1 c with c|c
     .exact a1 b (J9 _ (J9 _ c)) x N e
     .simp only[j6,j7,J5] at c
      subst c;exact ab x (ao x N) e
  .cases N
   rw[j8] at c;rcases j3.1 c with rfl|c
   .exact P g (lL (ax g e) Z) (ay g e) rfl
   .rcases z9.1 c with c|c
    .subst e
     exact P g (lL (ap g c) Z) (al g c) rfl
    .simp only[j6,j7,J5] at c
     subst c;exact P g (aW K e).1 (ak g e) rfl
  .rw[j8] at c
   rcases z9.1 c with c|c
   .exact a3 b c x N e
   .simp only[j6,j7,J5] at c
    subst c;exact ab x (ax x N) e
  .rw[j8]
   refine X5.2 ⟨a4,ae,λa F b c x N e=> ?_⟩;simp only[j6,j7,J5] at c;subst c;subst N;exact ab x (ap x F) e
def CpR.rows{wr:C}{r:St}{B:oA}{V k:Nat}{fn:List mh}{o z l:mh}(h:CpR w wr r B V k fn o z l)(Z:k=X r.things):a7f wr (R (M w)+1+1) r o z l fn:=by
 subst Z;have F:=h.things;rw[Z9] at F;exact⟨h.vq,F,h.len,λi hi=>h.fields i (by rw[h.len];exact hi),h.lines,h.apart⟩
def cu (V F:Int)(c:lI)(r:St):Int:=if aA V F c=0 then lA V F c r else aA V F c
def lj {V F:Int}{c:lI}{r:St}(h:r.at_ < 0\/(X c:Int) < r.at_\/r.taken < 0\/r.fin < 0\/5 < r.fin):lA V F c r=3:=by
 unfold lA;rw[if_pos (by simp[btw];omega)]
def WO {V F:Int}{c:lI}{r:St}(h:¬(r.at_ < 0\/(X c:Int) < r.at_\/r.taken < 0\/r.fin < 0\/5 < r.fin)):lA V F c r=if (X r.vq:Int)≠V then 1 else if 100 < X r.things then 2 else mL F c r:=by
 unfold lA;rw[if_neg (by simp[btw];omega)];rfl
def my(h:p:=by
 clear HT HB;go_wp2;go_ret;exact⟨bE s9,b3⟩):=h
def mC(ts:oA)(tc:Nat)(ls:oA)(lc:Nat)(w:C)(y:a2r w s c)(W:gY r)(j:a7s w r vs ts ls):
  Calls pG 42 #[Ag #[I Y V,I Y F,U s (X c) cap],dA r vs vc ts tc ls lc] w λe w'=>e=Rt (I Y (cu V F c r))/\bl w w':=by
 have P:=NQ;have m:=Ob;have Q0:=Pn;rw[j0] at Q0;have D:=y.below P (lR _);have A0:=j.below P (lR _);have l:=aL (fY V F s cap c _ D);have HT:=aL (λ(g:C) (N:n4 (R (M ((w.alloc (A #[I Y V,I Y F,U s (X c) cap] 24)).alloc (A #[I Y r.at_,U vs (X r.vq) vc,U ts (X r.things) tc,I Y r.taken,U ls (X r.lines) lc,I Y r.fin] 33)))) ((w.alloc (A #[I Y V,I Y F,U s (X c) cap] 24)).alloc (A #[I Y r.at_,U vs (X r.vq) vc,U ts (X r.things) tc,I Y r.taken,U ls (X r.lines) lc,I Y r.fin] 33)) g) (Q:X c<=60)=>F8 V F s c cap r vs vc ts tc ls lc g (D.below N (lR _)) Q W (A0.below N (lR _)));have k:=aL (λ(g:C) (N:n4 (R (M ((w.alloc (A #[I Y V,I Y F,U s (X c) cap] 24)).alloc (A #[I Y r.at_,U vs (X r.vq) vc,U ts (X r.things) tc,I Y r.taken,U ls (X r.lines) lc,I Y r.fin] 33)))) ((w.alloc (A #[I Y V,I Y F,U s (X c) cap] 24)).alloc (A #[I Y r.at_,U vs (X r.vq) vc,U ts (X r.things) tc,I Y r.taken,U ls (X r.lines) lc,I Y r.fin] 33)) g)=>And.intro (m.call N) (Q0.call N));have u:=aL (@cU V F c);have HB:Hid (cu V F c r=if aA V F c=0 then lA V F c r else aA V F c):=rfl;have n:X r.things<=9223372036854775807:=by have:=W.2.1;unfold maxLen at this;omega
 unfold dA at HT |-;generalize aA V F c=ck at *;clear m Q0 D A0 y j W;go_enter func42,ntmps42;go_wp2_with fail;generalize ((w.alloc _).alloc _)=w2 at *;go_call l.out as e w3 ⟨rfl,z⟩;clear l;have b3:=P.trans (z.mono P.size);obtain⟨⟨⟨B,p1,v⟩,pz⟩,⟨r0,o,r2,H,r4,K⟩,t,a⟩:=k.out w3 z;clear k a;by_cases Z:ck=0
 .subst Z
  have Q:=(u.out rfl).len;clear u;by_cases T:r.at_ < 0
  .have HR:Hid (cu V F c r=3):=by show _=_;rw[HB.out,if_pos rfl,lj (.inl T)]
   exact my
  by_cases a2:(X c:Int) < r.at_
  .have HR:Hid (cu V F c r=3):=by show _=_;rw[HB.out,if_pos rfl,lj (.inr (.inl a2))]
   exact my
  by_cases a3:r.taken < 0
  .have HR:Hid (cu V F c r=3):=by show _=_;rw[HB.out,if_pos rfl,lj (.inr (.inr (.inl a3)))]
   exact my
  by_cases a4:r.fin < 0
  .have HR:Hid (cu V F c r=3):=by show _=_;rw[HB.out,if_pos rfl,lj (.inr (.inr (.inr (.inl a4))))]
   exact my
  by_cases a5:5 < r.fin
  .have HR:Hid (cu V F c r=3):=by show _=_;rw[HB.out,if_pos rfl,lj (.inr (.inr (.inr (.inr a5))))]
   exact my
  have q:Hid (cu V F c r=if (X r.vq:Int)≠V then 1 else if 100 < X r.things then 2 else mL F c r):=by show _=_;rw[HB.out,if_pos rfl,WO (by omega)]
  clear HB;by_cases a6:(X r.vq:Int)=V
  .by_cases a7:100 < X r.things
   .have HR:Hid (cu V F c r=2):=by show _=_;rw[q.out,if_neg (by simpa using a6),if_pos a7]
    have n7:(100:Int) < (X r.things:Int):=aa;subst a6;clear HT q;go_wp2;go_ret;exact⟨bE s9,b3⟩
   .have HR:Hid (cu V F c r=mL F c r):=by show _=_;rw[q.out,if_neg (by simpa using a6),if_neg a7]
    have n7:¬(100:Int) < (X r.things:Int):=aa;subst a6;clear q;go_wp2_with fail;go_call HT.out w3 z Q as e w4 ⟨rfl,i⟩;clear HT;go_wp2;go_ret;exact⟨bE s9,b3.trans (i.mono b3.size)⟩
  .have HR:Hid (cu V F c r=1):=by show _=_;rw[q.out,if_pos a6]
   have n6:((X r.vq:Int)!=V)=true:=by simpa using a6
   clear HT q;go_wp2;go_ret;exact⟨bE s9,b3⟩
 .have ab:(ck !=0)=true:=by simpa using Z
  have HR:Hid (cu V F c r=ck):=by show _=_;rw[HB.out,if_neg Z]
  clear HT u HB;go_wp2;go_ret;exact⟨bE s9,b3⟩
def kw{z:Nat}{v:mh}{n:Nat}{xs:List mh}(h:w.ownsRow B e z v n xs):∃a b,v=U a n b:=by
 rcases h.2 with⟨hv,hn⟩|⟨g,V,u,hv,_⟩
 .exact⟨E,0,m8⟩
 .exact⟨_,_,hv⟩
def Sf (r:St)(vs:oA)(vc:Nat)(ts:oA)(tc:Nat)(ls:oA)(lc:Nat)(w:C)(hr:a7s w r vs ts ls)(W:X r.vq<=8796093021952)(N:∀t∈r.things,X t.fs<=8796093021952)(F:X r.things<=4398046510976)(V:X r.lines * 16<=140737488355328):
  Calls pG 30 #[dA r vs vc ts tc ls lc] w λe w'=>∃o z l D,e=Rt (Ag #[I Y r.at_,o,z,I Y r.taken,l,I Y r.fin])/\a7f w' (R (M w)) r o z l D/\bl w w':=by
 unfold dA;obtain⟨ti,hi,ba,a2,a1⟩:=info_parts tQ;obtain⟨tj,hj,bx,bz,bt⟩:=info_parts Dh;obtain⟨tk,hk,b4,cb,bv⟩:=info_parts DZ;have xO:=Rz;have Q0:=Oe;have Z0:=PL;rw[j0] at Z0;have ab:=Pr;have HA:=aL (λ(g:C) (hx:bl w g)=>hr.below hx (lR _));have bm:=aL N;clear hr N;go_enter func30,ntmps30;go_upto_region 1 with fail
 generalize ((w.alloc _).alloc _)=w2 at *;have ca:=aL ab;clear ab;obtain⟨⟨r0,r1,_⟩,rz,rf⟩:=id Q0;have g1:=rf 1;clear rf;have ax:=(HA.out w2 xO).1;have a0:=aL (And.intro ax.news ax.nil);clear ax;go_wp2_with (at_builtin;refine bn _ rfl _ _ 29 rfl (R (M w2)) 82 ti (Ag #[I Y 0,I Y 0]) 2 16 underlying29 hi ba a2 a1 rfl an _ _ _ rfl (q9 w2 #[] 0 (lR _) (j1 _) rfl) vs (X r.vq) vc (cw r.vq) rfl (g9 _) a0.out.2 ?qc2 (DY _) ?qc4 ?qc5 ?qc6 ?_)
 case qc2=>exact λn e j u hj=>Lib.cell?_alloc_some _ (a0.out.1 n e j u hj)
 case qc4=>unfold maxLen;omega
 case qc5=>omega
 case qc6=>simp
 intro o w3 ov a4 b7;have xp:bl w2 w3:=((bR _ w2).alloc (lR _) _).grown a4 ae Kw;have ab:=ca.out;(try simp only[j5,z8] at ov);rw[ab] at ov;clear a4 a0 r1 rz g1;obtain⟨xh,xf,rfl⟩:=kw ov;obtain⟨⟨q0,q1,q2,q3,q4,q5⟩,qz,qf⟩:=id (Q0.call xp);have g1:=qf 1;clear qf;have QA:=(Q0.call xp).put1 (U xh (X r.vq) xf);have ZA:=Re;have BA:=Pz;have OA:=NS;have zA:R (M w)+1+1<=R (M (w3.setCell ⟨R (M w),1,E⟩ (U xh (X r.vq) xf))):=by have:=xp.size;simp[J7];omega
 clear Q0 Z0 ov xp ab;go_upto_region 2 with fail
 generalize w3.setCell _ _=w4 at *;clear q0 q1 q2 q3 q4 q5 qz g1;obtain⟨⟨q0,q1,q2,q3,q4,q5⟩,qz,qf⟩:=id QA;have g4:=qf 4;clear qf;have ar:=(HA.out w4 BA).2.2;have ap:=aL (And.intro ar.news ar.nil);clear ar;go_wp2_with (at_builtin;refine bn _ rfl _ _ 31 rfl (R (M w4)) 9 tk (.string ⟨#[]⟩) 1 16 underlying31 hk b4 cb bv rfl an _ _ _ rfl (q9 w4 #[] 0 (lR _) (j1 _) rfl) ls (X r.lines) lc (r.lines.map .string) rfl ae ap.out.2 ?qd2 (MG _) ?qd4 ?qd5 ?qd6 ?_)
 case qd2=>exact λn e j u hj=>Lib.cell?_alloc_some _ (ap.out.1 n e j u hj)
 case qd4=>unfold maxLen;omega
 case qd5=>omega
 case qd6=>simp
 intro l w5 ol a7 b1;have xw:bl w4 w5:=((bR _ w4).alloc (lR _) _).grown a7 ae Kw;(try simp only[j5,z8] at ol);clear a7 ap q0 q1 q2 q3 q4 q5 qz g4;obtain⟨zS,zT,rfl⟩:=kw ol;obtain⟨⟨q0,q1,q2,q3,q4,q5⟩,qz,qf⟩:=id (QA.call xw);have g4:=qf 4;clear qf;have QB:=(QA.call xw).put4 (U zS (X r.lines) zT);have ZB:=Oz;have BB:=Nu;have OB:=OU;have LB:=Py;have bb:=Nj;have bc:=cW LB zA;have IV:CpR w (w5.setCell ⟨R (M w),4,E⟩ (U zS (X r.lines) zT)) r ts tc 0 [] (U xh (X r.vq) xf) (U E 0 0) (U zS (X r.lines) zT):=by
  refine⟨BB,QB,ZB,OB,bc,World.ownsRow_nil _ _ _ _,j1 _,rfl,λj hj=>by simp at hj,?_⟩;refine j4.2 ⟨λb T x hx e=> ?_,j4.2 ⟨λb T x hx e=> ?_,j4.2 ⟨λb T=>(by cases T),X6.nil⟩⟩⟩
  .rcases j3.1 T with rfl|T
   .cases e
   .rcases j3.1 T with rfl|T
    .exact bb x hx e
    .cases T
  .cases hx
 have a8:=aL IV;clear QA ZA BA OA ol xw LB QB ZB BB OB bc bb IV zA;go_upto_region 3 with fail
 generalize w5.setCell _ _=w6 at *;clear q0 q1 q2 q3 q4 q5 qz g4;go_wp2;go_loopw [3,4] (λz i wr=>∃(k:Nat) (fn:List mh) (bg:mh),z=bg/\i=I Y k/\CpR w wr r ts tc k fn (U xh (X r.vq) xf) bg (U zS (X r.lines) zT)) (λ_ i _=>X r.things - (intOf i).toNat)
 case atStart=>exact⟨0,[],_,rfl,rfl,a8.out⟩
 case round=>
  obtain⟨k,fn,z,rfl,rfl,hI⟩:=hrel;obtain⟨⟨q0,q1,q2,q3,q4,q5⟩,qz,qf⟩:=id hI.run;have ce:=hI.le;by_cases H:k < X r.things
  .obtain⟨ta,tb,rfl⟩:=kw hI.things
   rcases (HA.out w (bR _ _)).2.1 with hs|⟨b,B,rfl,T,a5⟩
   .rw[hs] at H;simp at H
   obtain⟨c0,f,fc,c1,a6⟩:=a5 k H;have n0:=bG;have n1:=EI;have cg:=bm.out _ (gM H);have KS:∀g,bl wr g->g.cell? ⟨R (M w),2,E⟩=G (U (G ⟨b,B,E⟩) (X r.things) tc)/\g.cell? ⟨b,B+k * 2,E⟩=G (I Y r.things[k].site)/\g.cell? ⟨b,B+k * 2+1,E⟩=G (U f (X r.things[k].fs) fc):=λg hx=>⟨by rw[hx.cell (by simpa using qz)];exact q2,by rw[hx.cell (by simp only;have:=hI.low.size;omega),hI.low.cell (by simpa using T)];exact c0,by rw[hx.cell (by simp only;have:=hI.low.size;omega),hI.low.cell (by simpa using T)];exact c1⟩
   have HV:=aL a6;have HI:=aL hI;have hO:=hI.things;have cf:R (M w)+1+1<=R (M wr):=by have:=hI.res.2.1;omega
   clear a5 a6 hI qf q0 q1 q3 q4 q5;go_wp2;refine XK [] ac KS (bR _ _).drew (λy=> ?_);refine QU ?_;refine QN 5 ?_;refine QN 6 ?_;refine QS ?_;refine av (i:=7) rfl ac (λK hK=> ?_);have a9:=dS;have al:R (M wr.drew)=R (M wr):=rfl;generalize wr.drew=wq at *;have b2:=aL al;clear al;go_simp;have b5:=b2.out;have am:bl wr (wq.alloc (A #[] 82)):=a9.alloc a9.size _;refine hK.out _ _ (KS _ am) (λy=> ?_);clear hK K;refine sm ?_;refine av (i:=14) rfl ac (λK hK=> ?_);have bs:=HV.out.below (HI.out.low.trans (am.mono HI.out.low.size)) (lR _);refine fe _ rfl _ _ 29 rfl (R (M wr)) 82 ti (Ag #[I Y 0,I Y 0]) 2 16 underlying29 hi ba a2 a1 rfl an _ _ _ rfl (q9 wq #[] 0 (by rw[b5];exact lR _) (j1 _) rfl) f (X r.things[k].fs) fc (cw r.things[k].fs) rfl (g9 _) bs.nil bs.news (DY _) cL aa au ?_;intro s w7 az a3 b0;have ao:bl wr w7:=am.grown a3 au (λx hx=>by have e:G (R (M wq))=G x:=hx;have:=Option.some.inj e;omega)
   (try simp only[j5,z8] at az);obtain⟨va,vb,rfl⟩:=kw az;refine hK.out _ _ (KS _ ao) (λy=> ?_);clear hK K a3 b0;refine sm ?_;refine QN 15 ?_;refine av (i:=16) rfl ac (λK hK=> ?_);go_simp;have ak:bl wr (w7.alloc (A #[I Y r.things[k].site,U va (X r.things[k].fs) vb] 84)):=ao.alloc ao.size _;refine hK.out _ _ (KS _ ak) (λy=> ?_);clear hK K;refine sm ?_;refine av (i:=17) rfl ac (λK hK=> ?_);have b6:=di hO ak;have b3:=di az (w':=w7.alloc (A #[I Y r.things[k].site,U va (X r.things[k].fs) vb] 84)) ai;refine step_append_lies _ rfl _ _ 30 rfl (R (M w)+1+1) 84 tj (Ag #[I Y 0,U E 0 0]) 2 32 underlying30 hj bx bz bt rfl an _ _ _ rfl b6 ⟨R (M w7),0,E⟩ 1 1 [I Y r.things[k].site,U va (X r.things[k].fs) vb] rfl rfl (λj u hj=>World.news_of_block (heap_alloc_new _ _) j u hj) Kd aa cL aa (by have:=ak.size;omega) _ rfl ?_;intro gl m w9 ay ah bf cc;have af:=aL (HI.out.step H ak b3 ay ah bf);have b8:w9.cell? ⟨R (M w),2,E⟩=G (U (G ⟨b,B,E⟩) (X r.things) tc)/\w9.cell? ⟨b,B+k * 2,E⟩=G (I Y r.things[k].site)/\w9.cell? ⟨b,B+k * 2+1,E⟩=G (U f (X r.things[k].fs) fc):=⟨af.out.run.1.2.2.1,by rw[af.out.low.cell (by simpa using T)];exact c0,by rw[af.out.low.cell (by simpa using T)];exact c1⟩;refine hK.out _ _ b8 (λy=> ?_);clear hK K;refine sm ?_;refine QN 18 ?_;refine aB ac ?_ _;clear KS;go_wp2;go_roundw
   case rel=>exact⟨k+1,_,_,rfl,aJ,af.out⟩
   case measure=>exact aK
  .have be:k=X r.things:=by omega
   obtain⟨ta,tb,rfl⟩:=kw hI.things;have OR:=hI.rows be;subst be;have HL:=hI.low;obtain⟨⟨z0,z1,z2,z3,z4,z5⟩,zz,zf⟩:=id hI.res;have g0:=zf 0;have g1:=zf 1;have g2:=zf 2;have g3:=zf 3;have g4:=zf 4;have g5:=zf 5;have gq:=qf 2;have HY:=aL (And.intro (((OR.set (a:=⟨R (M w),2,E⟩) aw (U ta (X r.things) tb)).set6 (b:=R (M w)+1) aa (I Y r.at_) (U xh (X r.vq) xf) (U ta (X r.things) tb) (I Y r.taken) (U zS (X r.lines) zT) (I Y r.fin)).down (show R (M w)<=R (M w)+1+1 by omega)) (gX (HL.setCell (p:=⟨R (M w),2,E⟩) (lR _) (U ta (X r.things) tb)) (show R (M w)<=R (M w)+1 by omega) (I Y r.at_) (U xh (X r.vq) xf) (U ta (X r.things) tb) (I Y r.taken) (U zS (X r.lines) zT) (I Y r.fin)));clear hI OR HL zf qf HA bm a8;go_wp2;refine bodyPost_ret (v:=Ag #[I Y r.at_,U xh (X r.vq) xf,U ta (X r.things) tb,I Y r.taken,U zS (X r.lines) zT,I Y r.fin]) (by simp[results,results30,go_sem,z0,z1,z2,z3,z4,z5]) rfl ?_;exact⟨_,_,_,fn,rfl,HY.out.1,HY.out.2⟩
end
section
open Go.RowKit
section
variable (h:Gs)(st:oA)(hc:Nat)(w:C)(xC:a2r w s c)(hs:yv w ss g.s)(h1:X g.s<=gc)(h2:gc<=maxLen)(ht:yv w st h.s)(h3:X h.s<=hc)(h4:hc<=maxLen)(j:aY V F c [g,h]=0)
def a5W:
  Calls pG 164 #[pv V F s c cap,I Y 5,gv g ss gc,gv h st hc] w λe w'=>e=Rt (Tu #[gv ⟨d,cT 5 g.sp h.sp,d,d,[]⟩ E 0,O ([g,h].any aT&& ![g,h].any aq),I Y 0])/\bl w w':=by
 obtain⟨P0,G0,H0,R0,F0⟩:=fN;have B0:=fJ;have C0:=fM;have I0:=fH;have J0:=fE;have L0:=gB;simp only[j0] at L0;have k:=λw=>N8 5 g.sp h.sp w;rw[show ke 5 g.sp h.sp=0 by unfold ke;rw[if_pos (gK j),if_pos an],show∀r,gR 0 r=r from λr=>rfl] at k;have hJ:=ag k;have HK:=ag j;clear j k;generalize cT 5 g.sp h.sp=J at hJ |-;exact tI
def a6k:
  Calls pG 164 #[pv V F s c cap,I Y 6,gv g ss gc,gv h st hc] w λe w'=>e=Rt (Tu #[gv ⟨d,cT 6 g.sp h.sp,d,d,[]⟩ E 0,O ([g,h].any aT&& ![g,h].any aq),I Y 0])/\bl w w':=by
 obtain⟨P0,G0,H0,R0,F0⟩:=fN;have B0:=fJ;have C0:=fM;have I0:=fH;have J0:=fE;have L0:=gB;simp only[j0] at L0;have k:=λw=>N8 6 g.sp h.sp w;rw[show ke 6 g.sp h.sp=0 by unfold ke;rw[if_pos (gK j),if_pos an],show∀r,gR 0 r=r from λr=>rfl] at k;have hJ:=ag k;have HK:=ag j;clear j k;generalize cT 6 g.sp h.sp=J at hJ |-;exact tI
def a6z:
  Calls pG 164 #[pv V F s c cap,I Y 7,gv g ss gc,gv h st hc] w λe w'=>e=Rt (Tu #[gv ⟨d,cT 7 g.sp h.sp,d,d,[]⟩ E 0,O ([g,h].any aT&& ![g,h].any aq),I Y 0])/\bl w w':=by
 obtain⟨P0,G0,H0,R0,F0⟩:=fN;have B0:=fJ;have C0:=fM;have I0:=fH;have J0:=fE;have L0:=gB;simp only[j0] at L0;have k:=λw=>N8 7 g.sp h.sp w;rw[show ke 7 g.sp h.sp=0 by unfold ke;rw[if_pos (gK j),if_pos an],show∀r,gR 0 r=r from λr=>rfl] at k;have hJ:=ag k;have HK:=ag j;clear j k;generalize cT 7 g.sp h.sp=J at hJ |-;exact tI
end
end
section
open Go.RowKit
attribute [local go_sem ↓] Go.wp_at_zero Go.wp_at_succ
def Tf (r:St)(vs:oA)(vc:Nat)(ts:oA)(tc:Nat)(ls:oA)(lc:Nat)(w:C)(hr:a7s w r vs ts ls)(W:X r.vq<=100)(N:∀t∈r.things,X t.fs<=100)(F:X r.things<=100)(V:X r.lines * 16<=140737488355328):
  Calls pG 45 #[dA r vs vc ts tc ls lc] w λe w'=>∃o z l D,e=Rt (Ag #[I Y r.at_,o,z,I Y r.taken,l,I Y r.fin])/\a7f w' (R (M w)) r o z l D/\bl w w':=by
 unfold dA;have xO:=Rz;have Q0:=Oe;have Z0:=PL;rw[j0] at Z0;obtain⟨m,am,al,ak⟩:=hr.2.1.list;have a4:=Pr;have H1:=aL (FH vs vc _ _ (hr.1.below xO (lR _)) aa);have H2:=aL (λ(wx:C) (hx:bl w wx)=>WD ls lc _ wx (hr.2.2.below hx (lR _)) V);have H3:=aL (λ(wx:C) (hx:bl w wx)=>WA ts tc (r.things.map (·.site)) m wx (by simpa using am) (λe=>by simpa using hr.2.1.nil e) (λad e j u hu=>by
  obtain⟨k,h1,h2,Z⟩:=Rf _ _ (by simpa using am) j u hu;rcases ak with ak|⟨b,off,es,a1,hi⟩
  .rw[ak] at h1;simp at h1
  .rw[es] at e
   cases e;have a5:k < X r.things:=iA;have q:=hi k a5 h2;rcases Z with⟨rfl,rfl⟩|⟨rfl,rfl⟩
   .have e:=Se
    rw[e,hx.cell (by simpa using a1)];simpa using q.1
   .have e:=Ou
    rw[e,hx.cell (by simpa using a1)];exact q.2) (λv hv=>by
  obtain⟨i,hi,rfl⟩:=Q2 hv;obtain⟨f,fc,e,-⟩:=al i aa hi;rw[e];rfl) au)
 have H4:=aL (λ(wx:C) (hx:bl w wx) (k:Nat) (Z:k < X r.things) (f:oA) (fc:Nat) (hf:a7j w f r.things[k].fs)=>FH f fc _ wx (hf.below hx (lR _)) (by have:=N _ (gM Z);omega))
 have HF:=aL al;clear hr al ak N;obtain⟨⟨r0,r1,r2,r3,r4,r5⟩,rz,rf⟩:=id Q0;have g1:=rf 1;clear rf;go_enter func45,ntmps45;go_wp2_with fail;generalize ((w.alloc _).alloc _)=w2 at *;go_call H1.out as e w3 ⟨o,rfl,ov,xp⟩;clear H1 r0 r1 r2 r3 r4 r5 g1;obtain⟨xh,xf,rfl,-⟩:=a7o.at ov;rw[a4] at ov;have QA:=(Q0.call xp).put1 (U xh (X r.vq) xf);have ZA:=Re;have BA:=Pz;have OA:=NS;have q1:=(Q0.call xp).1.2.1;have g1:=(Q0.call xp).2.2 1;have q4:=(Q0.call xp).1.2.2.2.2.1;have zA:R (M w)+1+1<=R (M (w3.setCell ⟨R (M w),1,E⟩ (U xh (X r.vq) xf))):=by have:=xp.size;simp[J7];omega
 clear Q0 Z0 ov xp;go_wp2_with fail;generalize w3.setCell _ _=w4 at *;go_call H2.out w4 BA as e w5 ⟨l,rfl,ol,xw⟩;clear H2 q1 g1 q4;obtain⟨zS,zT,rfl,-⟩:=StrRow.at ol;have q4:=(QA.call xw).1.2.2.2.2.1;have g4:=(QA.call xw).2.2 4;have q2:=(QA.call xw).1.2.2.1;have QB:=(QA.call xw).put4 (U zS (X r.lines) zT);have ZB:=Oz;have BB:=Nu;have OB:=OU;have LB:=Py;have az:=Nj;have zB:R (M w)+1+1<=R (M (w5.setCell ⟨R (M w),4,E⟩ (U zS (X r.lines) zT))):=by have:=xw.size;simp[J7];omega
 have ao:=cW LB zA;clear QA ZA BA OA ol xw LB;go_wp2_with fail;generalize w5.setCell _ _=w6 at *;have ax:=H3.out w6 BB;simp only[X1] at ax;go_call ax as e w7 ⟨z,rfl,ot,ah⟩;clear H3 ax q4 g4 q2;have a8:∃af ab,z=U af (X r.things) ab:=by
  rcases ot.2 with⟨hv,hn⟩|⟨g,bf,bg,hv,_⟩
  .exact⟨E,0,m8⟩
  .exact⟨_,_,hv⟩
 obtain⟨af,ab,rfl⟩:=a8;have q2:=(QB.call ah).1.2.2.1;have g2:=(QB.call ah).2.2 2;have IV:a9n w (w7.setCell ⟨R (M w),2,E⟩ (U af (X r.things) ab)) r m [] (U xh (X r.vq) xf) (U af (X r.things) ab) (U zS (X r.lines) zT):=by
  refine⟨(BB.trans (ah.mono BB.size)).setCell ae _,(QB.call ah).put2 _,(ZB.call ah).far ae _,eF (di OB ah) (eP OB aw) _,eF (di ao ah) (eP ao aw) _,?_,j1 _,am,λj hj=>by simp at hj,?_⟩
  .simp only[z8,X2,List.drop_zero]
   exact eF (cW ot zB) (eP ot aw) _
  .have n1:∀x,(q8 xh (X r.vq) xf).ownBlock=G x->(q8 af (X r.things) ab).ownBlock≠G x:=λx hx=>eP ot (aW OB hx).1
   have n2:∀x,(q8 zS (X r.lines) zT).ownBlock=G x->(q8 af (X r.things) ab).ownBlock≠G x:=λx hx=>eP ot (aW ao hx).1;refine j4.2 ⟨λb T x hx e=> ?_,j4.2 ⟨λb T x hx e=> ?_,j4.2 ⟨λb T=>(by cases T),X6.nil⟩⟩⟩
   .rcases j3.1 T with rfl|T
    .exact n1 x hx e
    .rcases j3.1 T with rfl|T
     .exact az x hx e
     .cases T
   .rcases j3.1 T with rfl|T
    .exact n2 x e hx
    .cases T
 have ar:=aL IV;clear QB ZB BB OB ao az ot ah IV zA zB;go_upto_region 4 with fail
 generalize w7.setCell _ _=w8 at *;obtain⟨⟨-,-,p2,-,-,-⟩,-,-⟩:=ar.out.run;clear q2 g2;go_wp2;go_loopw [19] (λi wr=>∃fn:List mh,X fn<=X r.things/\i=I Y (X fn)/\a9n w wr r m fn (U xh (X r.vq) xf) (U af (X r.things) ab) (U zS (X r.lines) zT)) (λi _=>X r.things - (intOf i).toNat)
 case atStart=>exact⟨[],j1 _,rfl,ar.out⟩
 case round=>
  obtain⟨fn,bm,rfl,hI⟩:=hrel;by_cases H:X fn < X r.things
  .obtain⟨gt,cg,a7,be,ay⟩:=hI.things.form aa
   cases a7;have n0:(0:Int)<=(X fn:Int):=aa;have n1:(X fn:Int) < (X r.things:Int):=aa;obtain⟨f,fc,a2,a3⟩:=HF.out (X fn) H aa;have n:wr.cell? ⟨gt,X fn * 2+1,E⟩=G (U f r.things[X fn].fs.length fc):=by
    rw[hI.things.cellAt (X fn * 2+1) aa];have a0:X (fn++m.drop (X fn))=X (r.things.map (·.site)):=by have:=hI.old;simp;omega
    rw[gr _ _ a0 (X fn) (by rw[a0];simpa using H),<-a2];congr 1;rw[List.getElem_append_right (lR _)];simp
   have fz:=hI.things.frozenAt (X fn * 2+1);have cr:=hI.run.1.2.2.1;have a9:=hI.run.2.1;have KZ:∀wx,bl wr wx->wx.cell? ⟨R (M w),2,E⟩=G (U (G ⟨gt,0,E⟩) (X r.things) ab)/\wx.cell? ⟨gt,X fn * 2+1,E⟩=G (U f r.things[X fn].fs.length fc):=λwx hx=>⟨by rw[hx.cell (by simpa using a9)];exact cr,by rw[hx.cell (by simpa using ay)];exact n⟩;have HC:=aL (H4.out wr.drew hI.low.drew (X fn) H f fc a3);have HN:=aL (λ(w1:C) (s:mh) (T:bl wr w1) (hv:a7o w1 (R (M wr)) s r.things[X fn].fs)=>hI.step H T hv);clear hI a3 a2;generalize hkk:X fn=k at *;go_wp2;refine XK [12] ac KZ (bR _ _).drew (λy=> ?_);refine QQ ?_;refine QN 8 ?_;refine av (i:=9) rfl ac (λK hK=> ?_);go_simp;go_at_call 83;go_call HC.out as e w9 ⟨s,rfl,ov,bb⟩;have ap:=Below.trans (bR _ _).drew bb;have ba:∃a b,s=U a r.things[k].fs.length b:=by
    obtain⟨a,b,e,-⟩:=a7o.at (w:=w9) (B:=R (M wr)) ov;exact⟨a,b,e⟩
   obtain⟨va,vb,rfl⟩:=ba;go_wp2_with fail;refine hK.out _ _ (KZ _ ap) (λy=> ?_);clear hK K HC;refine sm ?_;refine QN 10 ?_;refine QN 11 ?_;refine aM (i:=12) rfl ac ac (λK hK=> ?_);have d9:w9.frozen? ⟨gt,k * 2+1,E⟩=false:=by rw[ap.frozen (by simpa using ay)];exact fz
   go_simp;refine hK.out _ _ ?_;clear hK K;refine sm ?_;refine aB ac ?_ _;have a6:=aL (HN.out w9 _ ap ov);clear HN;go_wp2;go_roundw
   case rel=>exact⟨fn++[U va r.things[k].fs.length vb],au,by simp[hkk],a6.out⟩
   case measure=>exact aK
  .have hn:X fn=X r.things:=by omega
   have OR:=hI.rows hn;have HL:=hI.low;obtain⟨⟨r0,r1,r2,r3,r4,r5⟩,rz,rf⟩:=id hI.run;obtain⟨⟨z0,z1,z2,z3,z4,z5⟩,zz,zf⟩:=id hI.res;have g0:=zf 0;have g1:=zf 1;have g2:=zf 2;have g3:=zf 3;have g4:=zf 4;have g5:=zf 5;have HY:=aL (And.intro ((OR.set6 (b:=R (M w)+1) aa (I Y r.at_) (U xh (X r.vq) xf) (U af (X r.things) ab) (I Y r.taken) (U zS (X r.lines) zT) (I Y r.fin)).down (show R (M w)<=R (M w)+1+1 by omega)) (gX HL (show R (M w)<=R (M w)+1 by omega) (I Y r.at_) (U xh (X r.vq) xf) (U af (X r.things) ab) (I Y r.taken) (U zS (X r.lines) zT) (I Y r.fin)));clear hI OR HL rf zf HF H4 ar;go_wp2;refine bodyPost_ret (v:=Ag #[I Y r.at_,U xh (X r.vq) xf,U af (X r.things) ab,I Y r.taken,U zS (X r.lines) zT,I Y r.fin]) (by simp[results,results45,go_sem,z0,z1,z2,z3,z4,z5]) rfl ?_;exact⟨_,_,_,fn,rfl,HY.out.1,HY.out.2⟩
def ow(h:p:=by
 refine HC.out.mono ?_;rintro e w1 ⟨rfl,h1,h2,h3,h4⟩;clear HC;go_wp2;go_ret;exact⟨rfl,h1,(HW.mono hB).trans h2,λj hj=>by rw[h3 j hj];exact HW.cell hm,dl (ed HW) HW.size h4⟩):=h
def oR(h:p:=by
 clear h;go_enter func86,ntmps86;go_wp2_with fail;exact ow):=h
section
variable (B t x y:Nat)(s:St)(o z l:mh)(D:List mh)(n g:Int)(w:C)(h:a7a w B m s o z l D)(hB:B<=R (M w))(F:t < X s.vq)(N:x < X s.vq)(v:y < X s.vq)
def a6c:
  Calls pG 86 #[Pp (G ⟨m,0,E⟩),Ag #[I Y 5,I Y t,I Y x,I Y y,I Y n,I Y g]] w λe w'=>e=Rt (I Y (kX s.vq[x] s.vq[y]))/\a7p w w' B m (aP m o z l D) (ll s t 5 s.vq[x] s.vq[y]):=by
 have hm:=bV;have HW:n4 (R (M w)) w (w.alloc (A #[I Y 5,I Y t,I Y x,I Y y,I Y n,I Y g] 100)):=ai;have HC:=aL (oX m B t x y s o z l D 5 n g _ (h.below HW) (lT hB HW.size) F N v aa);exact oR

def a6a:
  Calls pG 86 #[Pp (G ⟨m,0,E⟩),Ag #[I Y 6,I Y t,I Y x,I Y y,I Y n,I Y g]] w λe w'=>e=Rt (I Y (kX s.vq[x] s.vq[y]))/\a7p w w' B m (aP m o z l D) (ll s t 6 s.vq[x] s.vq[y]):=by
 have hm:=bV;have HW:n4 (R (M w)) w (w.alloc (A #[I Y 6,I Y t,I Y x,I Y y,I Y n,I Y g] 100)):=ai;have HC:=aL (oX m B t x y s o z l D 6 n g _ (h.below HW) (lT hB HW.size) F N v aa);exact oR

def a6f:
  Calls pG 86 #[Pp (G ⟨m,0,E⟩),Ag #[I Y 7,I Y t,I Y x,I Y y,I Y n,I Y g]] w λe w'=>e=Rt (I Y (kX s.vq[x] s.vq[y]))/\a7p w w' B m (aP m o z l D) (ll s t 7 s.vq[x] s.vq[y]):=by
 have hm:=bV;have HW:n4 (R (M w)) w (w.alloc (A #[I Y 7,I Y t,I Y x,I Y y,I Y n,I Y g] 100)):=ai;have HC:=aL (oX m B t x y s o z l D 7 n g _ (h.below HW) (lT hB HW.size) F N v aa);exact oR

def a6g:
  Calls pG 86 #[Pp (G ⟨m,0,E⟩),Ag #[I Y 8,I Y t,I Y x,I Y y,I Y n,I Y g]] w λe w'=>e=Rt (I Y (kX s.vq[x] s.vq[y]))/\a7p w w' B m (aP m o z l D) (ll s t 8 s.vq[x] s.vq[y]):=by
 have hm:=bV;have HW:n4 (R (M w)) w (w.alloc (A #[I Y 8,I Y t,I Y x,I Y y,I Y n,I Y g] 100)):=ai;have HC:=aL (oX m B t x y s o z l D 8 n g _ (h.below HW) (lT hB HW.size) F N v aa);exact oR
end
def a4h(B:Nat)(s:St)(o z l:mh)(D:List mh)(t a b n g:Int)(w:C)(h:a7a w B m s o z l D)(hB:B<=R (M w))(H:X s.things=100):
  Calls pG 86 #[Pp (G ⟨m,0,E⟩),Ag #[I Y 11,I Y t,I Y a,I Y b,I Y n,I Y g]] w λe w'=>e=Rt (I Y 5)/\a7p w w' B m (aP m o z l D) s:=by
 have hm:=bV;have HW:=EE;have HC:=aL (a0K m B s o z l D t a b n g _ (h.below HW) (lT hB HW.size) H);clear h;go_enter func86,ntmps86;go_wp2_with fail;exact ow

def a4c(B t f:Nat)(s:St)(o z l:mh)(D:List mh)(a b n g:Int)(w:C)(h:a7a w B m s o z l D)(hB:B<=R (M w))(F:t < X s.vq)(H:X s.things < 100)(P:f<=3)(y:w.cell? ⟨m,7,E⟩=G (I Y f)):
  Calls pG 86 #[Pp (G ⟨m,0,E⟩),Ag #[I Y 11,I Y t,I Y a,I Y b,I Y n,I Y g]] w λe w'=>e=Rt (I Y 0)/\a7p w w' B m (aP m o z l D) {s with vq:=s.vq.set t ⟨3,X s.things⟩,things:=s.things++[⟨s.at_,x7 f ⟨0,0⟩⟩]}:=by
 have hm:=bV;have HW:=EE;have HC:=aL (a3f m B t f s o z l D a b n g _ (h.below HW) (lT hB HW.size) F H P (by rw[HW.cell (by simpa using hm)];exact y));clear h;go_enter func86,ntmps86;go_wp2_with fail;exact ow

def n9(h:p:=by
 go_enter func86,ntmps86;go_wp2_with fail;exact ow):=h
section
variable (B x:Nat)(s:St)(o z l:mh)(D:List mh)(t b n g:Int)(w:C)(h:a7a w B m s o z l D)(hB:B<=R (M w))(N:x < X s.vq)(K:s.vq[x].k≠3)
def a3w:
  Calls pG 86 #[Pp (G ⟨m,0,E⟩),Ag #[I Y 12,I Y t,I Y x,I Y b,I Y n,I Y g]] w λe w'=>e=Rt (I Y 2)/\a7p w w' B m (aP m o z l D) s:=by
 have hm:=bV;have HW:n4 (R (M w)) w (w.alloc (A #[I Y 12,I Y t,I Y x,I Y b,I Y n,I Y g] 100)):=ai;have HC:=aL (CJ m B x s o z l D 12 t b n g _ (h.below HW) (lT hB HW.size) N K);clear h;exact n9

def a4D:
  Calls pG 86 #[Pp (G ⟨m,0,E⟩),Ag #[I Y 13,I Y t,I Y x,I Y b,I Y n,I Y g]] w λe w'=>e=Rt (I Y 2)/\a7p w w' B m (aP m o z l D) s:=by
 have hm:=bV;have HW:n4 (R (M w)) w (w.alloc (A #[I Y 13,I Y t,I Y x,I Y b,I Y n,I Y g] 100)):=ai;have HC:=aL (CJ m B x s o z l D 13 t b n g _ (h.below HW) (lT hB HW.size) N K);clear h;exact n9
end
def a5L(B x q f t:Nat)(s:St)(o z l:mh)(D:List mh)(b g:Int)(w:C)(h:a7a w B m s o z l D)(hB:B<=R (M w))(N:x < X s.vq)(K:s.vq[x]=⟨3,(q:Int)⟩)(hq:q < X s.things)(P:f < X s.things[q].fs)(F:t < X s.vq):
  Calls pG 86 #[Pp (G ⟨m,0,E⟩),Ag #[I Y 12,I Y t,I Y x,I Y b,I Y f,I Y g]] w λe w'=>e=Rt (I Y 0)/\a7p w w' B m (aP m o z l D) {s with vq:=s.vq.set t s.things[q].fs[f]}:=by
 have hm:=bV;have HW:n4 (R (M w)) w (w.alloc (A #[I Y 12,I Y t,I Y x,I Y b,I Y f,I Y g] 100)):=ai;have HC:=aL (Yw m B x q f t s o z l D b g _ (h.below HW) (lT hB HW.size) N K hq P F);clear h K;exact n9

def a5m(B x q f y:Nat)(s:St)(o z l:mh)(D:List mh)(t g:Int)(w:C)(h:a7a w B m s o z l D)(hB:B<=R (M w))(N:x < X s.vq)(K:s.vq[x]=⟨3,(q:Int)⟩)(hq:q < X s.things)(P:f < X s.things[q].fs)(v:y < X s.vq):
  Calls pG 86 #[Pp (G ⟨m,0,E⟩),Ag #[I Y 13,I Y t,I Y x,I Y y,I Y f,I Y g]] w λe w'=>e=Rt (I Y 0)/\a7p w w' B m (aP m o z l D) (gD s q f s.vq[y]):=by
 have hm:=bV;have HW:n4 (R (M w)) w (w.alloc (A #[I Y 13,I Y t,I Y x,I Y y,I Y f,I Y g] 100)):=ai;have HC:=aL (a0v m B x q f y s o z l D t g _ (h.below HW) (lT hB HW.size) N K hq P v);clear h K;exact n9
def a7p.of{m:Nat}{bs:List (Option Nat)}{s a:St}(h:a7p w w' B m bs s)(e:s=a):a7p w w' B m bs a:=e ▸ h
def rQ{f:FuncId}{args:Array mh}{w:C}{x y:Int}{Q R:C->Prop}(h:Calls P f args w λe w'=>e=Rt (I Y x)/\Q w')(e:x=y)(a:∀w',Q w'->R w'):Calls P f args w λe w'=>e=Rt (I Y y)/\R w':=
 h.mono λc w' ⟨q,t⟩=>⟨by rw[q,e],a w' t⟩
def oO(h:p:=by
 unfold ll;split
 .rw[if_neg aa]
 .rw[if_pos rfl];rfl):=h
def a3Z(s:St)(hp:a8r V f c)(j:a8h V f c s)(i:Ins)(hi:bo V f (X c) i=0)(ins:List Int)(m B:Nat)(o z l:mh)(D:List mh)(is:oA)(u:Nat)(w:kl)(h:a7a w B m s o z l D)(W:B<=R (M w))(h7:w.cell? ⟨m,7,E⟩=G (I Y f))(T:w.cell? ⟨m,9,E⟩=G (U is (X ins) u))(r:yv w is ins)(H:Tab w)(Q:(X s.lines+1) * 16<=140737488355328):
  Calls pG 86 #[Pp (G ⟨m,0,E⟩),Ag #[I Y i.k,I Y i.tgt,I Y i.a,I Y i.b,I Y i.n,I Y i.g]] w λe w'=>e=Rt (I Y (Ec s i))/\a7p w w' B m (aP m o z l D) (WC f ins s i):=by
 have hA:=Nt j hi;have hC:=a1u j hi;obtain⟨k,tt,a,b,n,g⟩:=i;obtain⟨h1,h2,h3,h4,h5,h6,al,h8,ak⟩:=b9 hi;simp only at h1 h2 h3 h4 h5 h6 al h8 ak |-;have K:=j.vq;have tN:nTo k=W5->∃t:Nat,tt=t/\t < X s.vq:=λZ=>by
  obtain⟨t,rfl⟩:=j9 (h2 Z).1;exact⟨t,rfl,by have:=(h2 Z).2;omega⟩
 have aN:nA k=W5->∃x:Nat,∃N:x < X s.vq,a=x/\aOf s ⟨k,tt,a,b,n,g⟩=s.vq[x]:=λZ=>by
  obtain⟨x,rfl⟩:=j9 (h3 Z).1;have N:x < X s.vq:=by have:=(h3 Z).2;omega
  exact⟨x,N,rfl,by unfold aOf;simp only[Z,if_true];exact DQ N⟩
 have bN:nB k=W5->∃y:Nat,∃v:y < X s.vq,b=y/\bOf s ⟨k,tt,a,b,n,g⟩=s.vq[y]:=λZ=>by
  obtain⟨y,rfl⟩:=j9 (h4 Z).1;have v:y < X s.vq:=by have:=(h4 Z).2;omega
  exact⟨y,v,rfl,by unfold bOf;simp only[Z,if_true];exact DQ v⟩
 unfold Ec WC Ec;generalize aOf s ⟨k,tt,a,b,n,g⟩=A at *;generalize bOf s ⟨k,tt,a,b,n,g⟩=C at *;rcases rM h1 with rfl|rfl|rfl|rfl|rfl|rfl|rfl|rfl|rfl|rfl|rfl|rfl|rfl|rfl|rfl|rfl|rfl|rfl|rfl
 .obtain⟨t,rfl,F⟩:=tN rfl
  rw[ij _ 1 aa,if_pos rfl,a5R,j2];exact a6d m B t s o z l D a b n g w h W F (by have:=al rfl;unfold wr;omega)
 .obtain⟨t,rfl,F⟩:=tN rfl
  rw[ij _ 2 aa,if_pos rfl,a6E,j2];have e:eD (n==1)=⟨2,n⟩:=by rcases h8 rfl with rfl|rfl<;>rfl
  rw[<-e];exact a6s m B t s o z l D a b n g w h W F
 .obtain⟨t,rfl,F⟩:=tN rfl
  rw[ij _ 3 aa,if_pos rfl,a6p,j2];exact a6b m B t s o z l D a b n g w h W F
 .obtain⟨t,rfl,F⟩:=tN rfl
  obtain⟨x,N,rfl,rfl⟩:=aN rfl;rw[ij _ 4 aa,if_pos rfl,a6n,j2];exact a6m m B t x s o z l D b n g w h W F N
 .obtain⟨t,rfl,F⟩:=tN rfl
  obtain⟨x,N,rfl,rfl⟩:=aN rfl;obtain⟨y,v,rfl,rfl⟩:=bN rfl;rw[Mx _ 5 aa,a6j,j2];refine rQ (a6c m B t x y s o z l D n g w h W F N v) rfl (λw' hw=>hw.of ?_);exact oO
 .obtain⟨t,rfl,F⟩:=tN rfl
  obtain⟨x,N,rfl,rfl⟩:=aN rfl;obtain⟨y,v,rfl,rfl⟩:=bN rfl;rw[Mx _ 6 aa,a5Z,j2];refine rQ (a6a m B t x y s o z l D n g w h W F N v) rfl (λw' hw=>hw.of ?_);exact oO
 .obtain⟨t,rfl,F⟩:=tN rfl
  obtain⟨x,N,rfl,rfl⟩:=aN rfl;obtain⟨y,v,rfl,rfl⟩:=bN rfl;rw[Mx _ 7 aa,a6l,j2];refine rQ (a6f m B t x y s o z l D n g w h W F N v) rfl (λw' hw=>hw.of ?_);exact oO
 .obtain⟨t,rfl,F⟩:=tN rfl
  obtain⟨x,N,rfl,rfl⟩:=aN rfl;obtain⟨y,v,rfl,rfl⟩:=bN rfl;rw[Mx _ 8 aa,a6w,j2];refine rQ (a6g m B t x y s o z l D n g w h W F N v) rfl (λw' hw=>hw.of ?_);exact oO
 .obtain⟨t,rfl,F⟩:=tN rfl
  obtain⟨x,N,rfl,rfl⟩:=aN rfl;obtain⟨y,v,rfl,rfl⟩:=bN rfl;rw[ij _ 9 aa,if_pos rfl,a6y,j2];exact a6t m B t x y s o z l D n g w h W F N v
 .obtain⟨t,rfl,F⟩:=tN rfl
  obtain⟨x,N,rfl,rfl⟩:=aN rfl;rw[ij _ 10 aa,if_pos rfl,a5p,j2];exact a5n m B t x s o z l D b n g w h W F N _ hA
 .obtain⟨t,rfl,F⟩:=tN rfl
  rw[a5M];by_cases af:X s.things=100
  .rw[if_pos af,if_neg aa]
   exact a4h m B s o z l D t a b n g w h W af
  .have:=j.things
   have am:=hp.f3;rw[if_neg af,if_pos rfl,a5x,j2,j2];exact a4c m B t f s o z l D a b n g w h W F aa aa h7
 .obtain⟨t,rfl,F⟩:=tN rfl
  obtain⟨x,N,rfl,rfl⟩:=aN rfl;rw[a0J _ 12 aa];by_cases ab:s.vq[x].k=3
  .rw[if_pos ab,if_pos rfl,a5s,j2]
   rcases hA with hA|hA|hA|hA
   .omega
   .omega
   .omega
   obtain⟨q,hq⟩:=j9 hA.2.1;obtain⟨f',rfl⟩:=j9 (h5 (.inl rfl)).1;have ad:q < X s.things:=aa;have ah:f' < X s.things[q].fs:=by have:=j.fields _ (gM ad);have:=(h5 (.inl rfl)).2;omega
   rw[hq,Gi ad ah];exact a5L m B x q f' t s o z l D b g w h W N (by rw[<-ab,<-hq]) ad ah F
  .rw[if_neg ab,if_neg aa]
   exact a3w m B x s o z l D t b n g w h W N ab
 .obtain⟨x,N,rfl,rfl⟩:=aN rfl
  obtain⟨y,v,rfl,rfl⟩:=bN rfl;rw[a0J _ 13 aa];by_cases ab:s.vq[x].k=3
  .rw[if_pos ab,if_pos rfl,a5f]
   rcases hA with hA|hA|hA|hA
   .omega
   .omega
   .omega
   obtain⟨q,hq⟩:=j9 hA.2.1;obtain⟨f',rfl⟩:=j9 (h5 (.inr rfl)).1;have ad:q < X s.things:=aa;have ah:f' < X s.things[q].fs:=by have:=j.fields _ (gM ad);have:=(h5 (.inr rfl)).2;omega
   rw[hq];exact a5m m B x q f' y s o z l D tt g w h W N (by rw[<-ab,<-hq]) ad ah v
  .rw[if_neg ab,if_neg aa]
   exact a4D m B x s o z l D tt y n g w h W N ab
 .obtain⟨t,rfl,F⟩:=tN rfl
  rw[ij _ 14 aa,if_pos rfl,a5q,j2];exact a5c m B t s o z l D a b n g w h W F is u _ (ak rfl).1 (ak rfl).2 T r j.tk
 .rw[ij _ 15 aa,if_pos rfl,uK 15 aa]
  exact a5N m B s o z l D tt a b n g w h W
 .rw[ij _ 16 aa,if_pos rfl,uK 16 aa]
  exact a5B m B s o z l D tt a b n g w h W
 .obtain⟨x,N,rfl,rfl⟩:=aN rfl
  rw[a5G,uK 17 aa,show (if (if cnt s.vq[x]=W5 then(0:Int) else 3)=0 then s else s)=s by split<;>rfl];exact a5l m B x s o z l D tt b n g w h W N _ hA
 .obtain⟨x,N,rfl,rfl⟩:=aN rfl
  rw[ij _ 18 aa,if_pos rfl,a5P];exact a5I m B x s o z l D tt b n g w h W N _ hA H Q
 .rw[a5d,uK 19 aa,show (if (1:Int)=0 then s else s)=s by split<;>rfl]
  exact a5i m B s o z l D tt a b n g w h W
def a0l(s:St)(t:a8r V f c)(j:a8h V f c s)(i:Ins)(hi:bo V f (X c) i=0)(a:St)(F:a.at_=s.at_)(g:i.k=15->a.vq=s.vq)(m B:Nat)(o z l:mh)(D:List mh)(w:C)(h:a7a w B m a o z l D):
  Calls pG 87 #[Pp (G ⟨m,0,E⟩),Ag #[I Y i.k,I Y i.tgt,I Y i.a,I Y i.b,I Y i.n,I Y i.g]] w λe w'=>e=Rt (I Y (iV s i (aOf s i)))/\bl w w':=by
 have k:=Nt j hi;have T:=j.at0;have q:=j.at1;have W:=t.len;obtain⟨r,v,H,_⟩:=b9 hi;by_cases u:i.k=16
 .have e:iV s i (aOf s i)=i.g:=by unfold iV;rw[if_pos (.inl u)]
  rw[e,u];exact Yy m _ _ _ _ _ w
 by_cases n:i.k=15
 .have Q:nA i.k=true:=by rw[n];rfl
  obtain⟨x,N⟩:=j9 (H Q).1;have K:=j.vq;have P:x < X s.vq:=by have:=(H Q).2;omega
  have y:=g n;have Z:x < X a.vq:=by rw[y];exact P
  have ea:aOf s i=s.vq[x]:=by unfold aOf;rw[Q,if_pos rfl,N];exact DQ P
  have ev:a.vq[x]=s.vq[x]:=by simp only[y]
  rw[ea] at k |-;have e:iV s i s.vq[x]=bif cnt s.vq[x] then i.g else s.at_+1:=by
   unfold iV;cases hc:cnt s.vq[x]<;>simp[n,u,hc]
  rw[e,n,N];have:=a4O m B x a o z l D i.tgt i.b i.n i.g w h Z _ (by rw[ev];exact k) aa aa;rw[ev,F] at this;exact this
 .have e:iV s i (aOf s i)=s.at_+1:=by unfold iV;rw[if_neg aa]
  rw[e,<-F];exact a0o m B a o z l D _ _ _ _ _ _ w h n u aa aa

section
variable {m:Nat}{s:St}{o z l:mh}{D:List mh}(h:a7a w B m s o z l D)(x:Int)
def a7a.withAt:a7a (w.setCell ⟨m,0,E⟩ (I Y x)) B m {s with at_:=x} o z l D:=by
 simpa using h.setM 0 x aa
def a7a.withFin:a7a (w.setCell ⟨m,5,E⟩ (I Y x)) B m {s with fin:=x} o z l D:=by
 simpa using h.setM 5 x aa
end
def Wr(s:St)(i:Ins)(c C:Val)(h:i.k=15):dx F ins s i c C=s:=by
 obtain⟨k,t,a,b,n,g⟩:=i;simp only at h;subst h;rfl
section
variable (B:Nat)(s:St)(o z l:mh)(D:List mh)
def TB(w:C)(h:a7a w B m s o z l D)(P:s.fin≠0):
  Calls pG 46 #[Pp (G ⟨m,0,E⟩)] w λe w'=>e=Rt (Tu #[])/\a7p w w' B m (aP m o z l D) s:=by
 have q5:=h.fin_;have a:(s.fin !=0)=true:=by simpa using P
 have q:=aL h;clear h;go_enter func46,ntmps46;go_wp2;first|go_ret|go_end0|refine bodyPost_ret (results_none rfl _ _ _) rfl ?_
 exact⟨rfl,⟨_,_,_,_,q.out⟩,bR _ _,λj _=>rfl,λk _ _=>rfl⟩
def VT(n a:Nat)(cs:oA)(w:C)(h:a7a w B m s o z l D)(P:s.fin=0)(F:s.at_=(n:Int))(i:w.cell? ⟨m,8,E⟩=G (U cs n a)):
  Calls pG 46 #[Pp (G ⟨m,0,E⟩)] w λe w'=>e=Rt (Tu #[])/\a7p w w' B m (aP m o z l D) {s with fin:=1}:=by
 have q5:=h.fin_;rw[P] at q5;have r:=h.at_;rw[F] at r;have c:=h.thaw 5;have q:=aL h;clear h;go_enter func46,ntmps46;go_wp2
 go_quiet (fail)
 go_wp2;first|go_ret|go_end0|refine bodyPost_ret (results_none rfl _ _ _) rfl ?_
 have T:=below_drewN (bR (R (M w)) w) nq;exact⟨rfl,⟨_,_,_,_,(q.out.below T).withFin 1⟩,(T.mono (Nat.le_of_lt (Nat.lt_of_le_of_lt q.out.low (q.out.lt (k:=m) fL)))).setCell q.out.low _,λj Q=>by rw[x8 _ _ _ _ (by intro e;cases e;omega)];exact T.cell (by simpa using q.out.lt (k:=m) (by simp[aP])),dl (ed T) T.size (nS fL _ _)⟩
end
def a1N(s:St)(t:a8r V f c)(hr:a8h V f c s)(ins:List Int)(m B:Nat)(o z l:mh)(D:List mh)(cs:oA)(cc:Nat)(is:oA)(u:Nat)(w:C)(h:a7a w B m s o z l D)(W:B<=R (M w))(y:w.cell? ⟨m,7,E⟩=G (I Y f))(h8:w.cell? ⟨m,8,E⟩=G (U cs (X c) cc))(h9:w.cell? ⟨m,9,E⟩=G (U is (X ins) u))(hC:a2r w cs c)(r:yv w is ins)(H:Tab w)(a9:(X s.lines+1) * 16<=140737488355328)(hf:s.fin=0)(k:Nat)(F:s.at_=(k:Int))(Z:k < X c):
  Calls pG 46 #[Pp (G ⟨m,0,E⟩)] w λe w'=>e=Rt (Tu #[])/\a7p w w' B m (aP m o z l D) (bX f c ins s):=by
 have hm:=bV;have q5:=h.fin_;rw[hf] at q5;have q0:=h.at_;rw[F] at q0;have a0:bS c (k:Int)=c[k]:=Et Z;have hi:bo V f (X c) c[k]=0:=t.each _ (gM Z);have ak:=aL (nP f c ins s);rw[F,a0,if_neg aa,if_neg aa] at ak;have a6:=aL (a2n f ins s c[k] (aOf s c[k]) (bOf s c[k]));have ax:=aL (a1h f ins s c[k] (aOf s c[k]) (bOf s c[k]));have al:=aL (Wr f ins s c[k] (aOf s c[k]) (bOf s c[k]));rcases hC with hC|⟨b,ab,rfl,T,hC⟩
 .rw[hC] at Z;simp at Z
 obtain⟨i0,i1,i2,i3,i4,i5⟩:=hC k Z;have n0:=bG;have n1:=kA;have nk:((k:Int)==(X c:Int))=false:=au;have K1:∀wx,bl w wx->wx.cell? ⟨m,8,E⟩=G (U (G ⟨b,ab,E⟩) (X c) cc)/\wx.cell? ⟨m,0,E⟩=G (I Y k)/\wx.cell? ⟨b,ab+k * 6,E⟩=G (I Y c[k].k)/\wx.cell? ⟨b,ab+k * 6+1,E⟩=G (I Y c[k].tgt)/\wx.cell? ⟨b,ab+k * 6+2,E⟩=G (I Y c[k].a)/\wx.cell? ⟨b,ab+k * 6+3,E⟩=G (I Y c[k].b)/\wx.cell? ⟨b,ab+k * 6+4,E⟩=G (I Y c[k].n)/\wx.cell? ⟨b,ab+k * 6+5,E⟩=G (I Y c[k].g):=λwx N=>⟨by rw[N.cell (by simpa using hm)];exact h8,by rw[N.cell (by simpa using hm)];exact q0,by rw[N.cell (by simpa using T)];exact i0,by rw[N.cell (by simpa using T)];exact i1,by rw[N.cell (by simpa using T)];exact i2,by rw[N.cell (by simpa using T)];exact i3,by rw[N.cell (by simpa using T)];exact i4,by rw[N.cell (by simpa using T)];exact i5⟩;clear hC i0 i1 i2 i3 i4 i5 a0;go_enter func46,ntmps46;go_wp2
 go_quiet (fail)
 go_wp2;have am:bl w (w.drewN nq).drew:=(below_drewN (bR _ _) _).drew;have xS:R (M (w.drewN nq).drew)=R (M w):=rfl;refine XK [] ac K1 am (λaf=> ?_);refine QQ ?_;refine QV ?_;refine QN 11 ?_;generalize (w.drewN nq).drew=wq at *;refine av (i:=12) rfl ac (λK hK=> ?_);go_simp;have a1:bl w (wq.alloc (A #[I Y 0,I Y 0,I Y 0,I Y 0,I Y 0,I Y 0] 100)):=am.alloc aa _;refine hK.out _ _ (K1 _ a1) (λaf=> ?_);clear hK K;refine sm ?_;refine av (i:=13) rfl ac (λK hK=> ?_);go_simp;have ad:bl w (wq.alloc (A #[I Y c[k].k,I Y c[k].tgt,I Y c[k].a,I Y c[k].b,I Y c[k].n,I Y c[k].g] 100)):=am.alloc aa _;refine hK.out _ _ (K1 _ ad) (λaf=> ?_);clear hK K;refine sm ?_;refine aB ac ?_ _;(try rw[xS]);have c0:(wq.alloc (A #[I Y c[k].k,I Y c[k].tgt,I Y c[k].a,I Y c[k].b,I Y c[k].n,I Y c[k].g] 100)).cell? ⟨R (M w),0,E⟩=G (I Y c[k].k):=mN;have c1:(wq.alloc (A #[I Y c[k].k,I Y c[k].tgt,I Y c[k].a,I Y c[k].b,I Y c[k].n,I Y c[k].g] 100)).cell? ⟨R (M w),1,E⟩=G (I Y c[k].tgt):=mN;have c2:(wq.alloc (A #[I Y c[k].k,I Y c[k].tgt,I Y c[k].a,I Y c[k].b,I Y c[k].n,I Y c[k].g] 100)).cell? ⟨R (M w),2,E⟩=G (I Y c[k].a):=mN;have c3:(wq.alloc (A #[I Y c[k].k,I Y c[k].tgt,I Y c[k].a,I Y c[k].b,I Y c[k].n,I Y c[k].g] 100)).cell? ⟨R (M w),3,E⟩=G (I Y c[k].b):=mN;have c4:(wq.alloc (A #[I Y c[k].k,I Y c[k].tgt,I Y c[k].a,I Y c[k].b,I Y c[k].n,I Y c[k].g] 100)).cell? ⟨R (M w),4,E⟩=G (I Y c[k].n):=mN;have c5:(wq.alloc (A #[I Y c[k].k,I Y c[k].tgt,I Y c[k].a,I Y c[k].b,I Y c[k].n,I Y c[k].g] 100)).cell? ⟨R (M w),5,E⟩=G (I Y c[k].g):=mN;have a5:R (M w) < R (M (wq.alloc (A #[I Y c[k].k,I Y c[k].tgt,I Y c[k].a,I Y c[k].b,I Y c[k].n,I Y c[k].g] 100))):=by simp[xS]
 clear af K1 am a1;generalize wq.alloc (A #[I Y c[k].k,I Y c[k].tgt,I Y c[k].a,I Y c[k].b,I Y c[k].n,I Y c[k].g] 100)=wd at *;have oD:=h.below ad;have HD:=aL (a3Z V f c s t hr c[k] hi ins m B o z l D is u wd oD (lT W ad.size) (by rw[ad.cell (by simpa using hm)];exact y) (by rw[ad.cell (by simpa using hm)];exact h9) (r.below ad (lR _)) (H.below ad) a9);have a7:G (R (M w))∉aP m o z l D:=λe=>Q1 _ (h.lt e);unfold WC at HD;generalize Ec s c[k]=ee at *;generalize hEF:dx f ins s c[k] (aOf s c[k]) (bOf s c[k])=ef at *;clear hEF;go_wp2_with fail;refine HD.out.mono ?_;rintro e w1 ⟨rfl,⟨a2,a3,a8,a4,o1⟩,M2,M3,M4⟩;clear HD;have bx:=M4 (R (M w)) a5 a7;have x0:w1.cell? ⟨R (M w),0,E⟩=G (I Y c[k].k):=by rw[q7 (a:=⟨R (M w),0,E⟩) bx];exact c0
 have x1:w1.cell? ⟨R (M w),1,E⟩=G (I Y c[k].tgt):=by rw[q7 (a:=⟨R (M w),1,E⟩) bx];exact c1
 have x2:w1.cell? ⟨R (M w),2,E⟩=G (I Y c[k].a):=by rw[q7 (a:=⟨R (M w),2,E⟩) bx];exact c2
 have x3:w1.cell? ⟨R (M w),3,E⟩=G (I Y c[k].b):=by rw[q7 (a:=⟨R (M w),3,E⟩) bx];exact c3
 have x4:w1.cell? ⟨R (M w),4,E⟩=G (I Y c[k].n):=by rw[q7 (a:=⟨R (M w),4,E⟩) bx];exact c4
 have x5:w1.cell? ⟨R (M w),5,E⟩=G (I Y c[k].g):=by rw[q7 (a:=⟨R (M w),5,E⟩) bx];exact c5
 clear c0 c1 c2 c3 c4 c5 bx;have r5:=o1.fin_;have d5:=o1.thaw 5;have ay:m < R (M w1):=o1.lt fL;have HM:n4 B w w1:=(ad.mono W).trans M2;have HF:Hid (∀k,k < R (M w)->G k∉aP m o z l D->w1.heap[k]? =w.heap[k]?):=dl (ed ad) ad.size M4;have ar:Hid (∀j,6<=j->w1.cell? ⟨m,j,E⟩=w.cell? ⟨m,j,E⟩):=λj hj=>by rw[M3 j hj];exact ad.cell hm
 have ao:B<=m:=h.low;clear M2 M3 M4 oD h;by_cases he:ee=0
 .subst he
  simp only[if_true] at o1 r5;have oF:=o1.withFin 0;have HN:=aL (λ(wx:C) (o z l:mh) (D:List mh) (N:a7a wx B m {ef with fin:=0} o z l D)=>a0l V f c s t hr c[k] hi {ef with fin:=0} a6.out (λba=>by show ef.vq=s.vq;rw[al.out ba]) m B o z l D wx N);have HQ:Hid (bX f c ins s={ef with at_:=iV s c[k] (aOf s c[k])}):=by
   have:=ak.out;rw[if_neg ae] at this;exact this
  clear ak al;go_wp2_with fail;refine(HN.out _ a2 a3 a8 a4 oF).mono ?_;rintro e w2 ⟨rfl,ah⟩;have o2:=oF.below ah;have r0:=o2.at_;have d0:=o2.thaw 0;have ap:R (M (w1.setCell ⟨m,5,E⟩ (I Y 0)))=R (M w1):=bI;clear HN;go_wp2;first|go_ret|go_end0|refine bodyPost_ret (results_none rfl _ _ _) rfl ?_
  rw[HQ.out];have oZ:=o2.withAt (iV s c[k] (aOf s c[k]));have eZ:({({ef with fin:=0}:St) with at_:=iV s c[k] (aOf s c[k])}:St)={ef with at_:=iV s c[k] (aOf s c[k])}:=by
   have az:ef.fin=0:=by rw[ax.out];exact hf
   cases ef;simp only at az;subst az;rfl
  rw[eZ] at oZ;refine⟨rfl,⟨_,_,_,_,oZ⟩,Below.setCell (Below.trans (HM.setCell ao _) (ah.mono (by rw[ap];exact lT ao (Nat.le_of_lt ay)))) ao _,λj hj=> ?_,?_⟩
  .rw[x8 _ _ _ _ pC,ah.cell (by rw[ap];exact ay),x8 _ _ _ _ pC]
   exact ar.out j hj
  .refine dl HF.out HM.size (dl (nS fL _ _) (by rw[ap];exact lR _) (dl (ed ah) ah.size (nS fL _ _)))
 .simp only[he,if_false] at o1 r5
  have bb:(ee==0)=false:=by simpa using he
  have oF:=o1.withFin ee;have HQ:Hid (bX f c ins s={s with fin:=ee}):=by
   have:=ak.out;rw[if_pos he,<-F] at this;exact this
  have HX:=aL oF;clear ak al oF o1;go_wp2;first|go_ret|go_end0|refine bodyPost_ret (results_none rfl _ _ _) rfl ?_
  rw[HQ.out];refine⟨rfl,⟨_,_,_,_,HX.out⟩,HM.setCell ao _,λj hj=> ?_,dl HF.out HM.size (nS fL _ _)⟩;rw[x8 _ _ _ _ pC];exact ar.out j hj
def Lm(s:St)(t:a8r V f c)(j:a8h V f c s)(ins:List Int)(m B:Nat)(o z l:mh)(D:List mh)(cs:oA)(a:Nat)(is:oA)(u:Nat)(w:C)(h:a7a w B m s o z l D)(W:B<=R (M w))(y:w.cell? ⟨m,7,E⟩=G (I Y f))(i:w.cell? ⟨m,8,E⟩=G (U cs (X c) a))(T:w.cell? ⟨m,9,E⟩=G (U is (X ins) u))(n:a2r w cs c)(r:yv w is ins)(H:Tab w)(Q:(X s.lines+1) * 16<=140737488355328):
  Calls pG 46 #[Pp (G ⟨m,0,E⟩)] w λe w'=>e=Rt (Tu #[])/\a7p w w' B m (aP m o z l D) (bX f c ins s):=by
 by_cases P:s.fin=0
 .by_cases F:s.at_=X c
  .have e:bX f c ins s={s with fin:=1}:=by rw[nP,if_neg aa,if_pos F]
   rw[e];exact VT m B s o z l D _ a cs w h P F i
  .obtain⟨k,Z⟩:=j9 j.at0
   have:=j.at1;exact a1N V f c s t j _ m B o z l D cs a is u w h W y i T n r H Q P k Z aa
 .have e:bX f c ins s=s:=by rw[nP,if_pos P]
  rw[e];exact TB m B s o z l D w h P
def TU(B:oA)(H:Nat)(ls:oA)(lc:Nat)(is:oA)(u:Nat)(ins:List Int)(w:C)(y:a2r w s c)(W:gY r)(j:a7s w r vs B ls)(h0:cu V F c r≠0):
  Calls pG 14 #[Ag #[I Y V,I Y F,U s (X c) cap],dA r vs vc B H ls lc,U is (X ins) u] w λe w'=>e=Rt (Tu #[Ag #[I Y 0,U E 0 0,U E 0 0,I Y 0,U E 0 0,I Y 0],I Y (cu V F c r)])/\bl w w':=by
 have P:n4 (R (M w)) w (((w.alloc (A #[I Y V,I Y F,U s (X c) cap] 24)).alloc (A #[I Y r.at_,U vs (X r.vq) vc,U B (X r.things) H,I Y r.taken,U ls (X r.lines) lc,I Y r.fin] 33)).alloc (A #[I Y 0,U E 0 0,U E 0 0,I Y 0,U E 0 0,I Y 0] 33)):=ai;have Z0:=R6.new ((w.alloc (A #[I Y V,I Y F,U s (X c) cap] 24)).alloc (A #[I Y r.at_,U vs (X r.vq) vc,U B (X r.things) H,I Y r.taken,U ls (X r.lines) lc,I Y r.fin] 33)) 33 (I Y 0) (U E 0 0) (U E 0 0) (I Y 0) (U E 0 0) (I Y 0);rw[j0,j0] at Z0;have l:=aL (mC V F s c cap r vs vc B H ls lc _ (y.below P (lR _)) W (j.below P (lR _)));have Z:(cu V F c r !=0)=true:=kG;unfold dA at l |-;clear y W j h0;go_enter func14,ntmps14;go_wp2_with fail;generalize (((w.alloc _).alloc _).alloc _)=w3 at *;go_call l.out as e D ⟨rfl,i⟩;clear l;have g:=P.trans (i.mono P.size);obtain⟨⟨r0,r1,r2,r3,r4,r5⟩,t,a⟩:=id (Z0.call i);have o:=a 0;have q:=a 1;have K:=a 2;have k:=a 3;have z:=a 4;have n:=a 5;clear a Z0;go_wp2;refine bodyPost_ret (v:=Tu #[Ag #[I Y 0,U E 0 0,U E 0 0,I Y 0,U E 0 0,I Y 0],I Y (cu V F c r)]) VN rfl ⟨rfl,?_⟩;exact gX g aa _ _ _ _ _ _

def Hg(B:oA)(V:Nat)(ls:oA)(lc:Nat)(is:oA)(u:Nat)(ins:List Int)(w:C)(y:a2r w s c)(W:gY r)(hr:a7s w r vs B ls)(hI:yv w is ins)(H:Tab w)(b3:(X r.lines+1) * 16<=140737488355328)(T:cu v f c r=0):
  Calls pG 14 #[Ag #[I Y (v:Int),I Y (f:Int),U s (X c) cap],dA r vs vc B V ls lc,U is (X ins) u] w λe w'=>∃o z l D,e=Rt (Tu #[Ag #[I Y (bX f c ins r).at_,o,z,I Y (bX f c ins r).taken,l,I Y (bX f c ins r).fin],I Y 0])/\a7f w' (R (M w)) (bX f c ins r) o z l D/\bl w w':=by
 have a8:aA v f c=0:=by
  unfold cu at T;split at T
  .assumption
  .exact T
 have bs:lA v f c r=0:=by
  unfold cu at T;rw[if_pos a8] at T;exact T
 have hp:=cU a8;have Z:=OH bs;have a1:n4 (R (M w)) w (((w.alloc (A #[I Y (v:Int),I Y (f:Int),U s (X c) cap] 24)).alloc (A #[I Y r.at_,U vs (X r.vq) vc,U B (X r.things) V,I Y r.taken,U ls (X r.lines) lc,I Y r.fin] 33)).alloc (A #[I Y 0,U E 0 0,U E 0 0,I Y 0,U E 0 0,I Y 0] 33)):=ai;have P0:=(P3.new w v f s (X c) cap).call (w':=(((w.alloc (A #[I Y (v:Int),I Y (f:Int),U s (X c) cap] 24)).alloc (A #[I Y r.at_,U vs (X r.vq) vc,U B (X r.things) V,I Y r.taken,U ls (X r.lines) lc,I Y r.fin] 33)).alloc (A #[I Y 0,U E 0 0,U E 0 0,I Y 0,U E 0 0,I Y 0] 33))) ai;have Q0:=(R6.new (w.alloc (A #[I Y (v:Int),I Y (f:Int),U s (X c) cap] 24)) 33 (I Y r.at_) (U vs (X r.vq) vc) (U B (X r.things) V) (I Y r.taken) (U ls (X r.lines) lc) (I Y r.fin)).call (w':=(((w.alloc (A #[I Y (v:Int),I Y (f:Int),U s (X c) cap] 24)).alloc (A #[I Y r.at_,U vs (X r.vq) vc,U B (X r.things) V,I Y r.taken,U ls (X r.lines) lc,I Y r.fin] 33)).alloc (A #[I Y 0,U E 0 0,U E 0 0,I Y 0,U E 0 0,I Y 0] 33))) ai;have Z0:=R6.new ((w.alloc (A #[I Y (v:Int),I Y (f:Int),U s (X c) cap] 24)).alloc (A #[I Y r.at_,U vs (X r.vq) vc,U B (X r.things) V,I Y r.taken,U ls (X r.lines) lc,I Y r.fin] 33)) 33 (I Y 0) (U E 0 0) (U E 0 0) (I Y 0) (U E 0 0) (I Y 0);rw[j0] at Q0;rw[j0,j0] at Z0;have HC:=aL (mC v f s c cap r vs vc B V ls lc (((w.alloc (A #[I Y (v:Int),I Y (f:Int),U s (X c) cap] 24)).alloc (A #[I Y r.at_,U vs (X r.vq) vc,U B (X r.things) V,I Y r.taken,U ls (X r.lines) lc,I Y r.fin] 33)).alloc (A #[I Y 0,U E 0 0,U E 0 0,I Y 0,U E 0 0,I Y 0] 33)) (y.below a1 (lR _)) W (hr.below a1 (lR _)));rw[T] at HC;have a3:=aL (λ(g:C) (N:bl w g)=>Tf r vs vc B V ls lc g (hr.below N (lR _)) (by have:=Z.vq;have:=hp.v8;omega) (λt F=>by have:=Z.fields t F;have:=hp.f3;omega) Z.things aa)
 unfold dA at HC a3 |-;have bt:=aL (λ(g:C) (N:bl w g)=>And.intro (y.below N (lR _)) (And.intro (hI.below N (lR _)) (H.below N)));have HP:=aL (And.intro hp Z);clear y W hr T a8 bs hI H hp Z;have b8:R (M (((w.alloc (A #[I Y (v:Int),I Y (f:Int),U s (X c) cap] 24)).alloc (A #[I Y r.at_,U vs (X r.vq) vc,U B (X r.things) V,I Y r.taken,U ls (X r.lines) lc,I Y r.fin] 33)).alloc (A #[I Y 0,U E 0 0,U E 0 0,I Y 0,U E 0 0,I Y 0] 33)))=R (M w)+1+1+1:=ae;go_enter func14,ntmps14;go_wp2_with fail;generalize (((w.alloc _).alloc _).alloc _)=w3 at *;go_call HC.out as e w4 ⟨rfl,ax⟩;clear HC;have H4:=a1.trans (ax.mono a1.size);have P4:=P0.call ax;have Q4:=Q0.call ax;have Z4:=Z0.call ax;have b6:R (M w)+1+1+1<=R (M w4):=by have:=ax.size;omega
 have KS:∀g,bl w4 g->g.cell? ⟨R (M w),0,E⟩=G (I Y v)/\g.cell? ⟨R (M w),1,E⟩=G (I Y f)/\g.cell? ⟨R (M w),2,E⟩=G (U s (X c) cap)/\g.cell? ⟨R (M w)+1,0,E⟩=G (I Y r.at_)/\g.cell? ⟨R (M w)+1,1,E⟩=G (U vs (X r.vq) vc)/\g.cell? ⟨R (M w)+1,2,E⟩=G (U B (X r.things) V)/\g.cell? ⟨R (M w)+1,3,E⟩=G (I Y r.taken)/\g.cell? ⟨R (M w)+1,4,E⟩=G (U ls (X r.lines) lc)/\g.cell? ⟨R (M w)+1,5,E⟩=G (I Y r.fin):=λg N=>by
  obtain⟨⟨p0,p1,p2⟩,-⟩:=P4.call N;obtain⟨⟨r0,r1,r2,r3,r4,r5⟩,-,-⟩:=Q4.call N;exact⟨p0,p1,p2,r0,r1,r2,r3,r4,r5⟩
 clear P0 Q0 Z0 ax P4 Q4;go_upto_region 4 with fail
 go_cut [9] (λp9 wy=>∃m o z l D,p9=Pp (G ⟨m,0,E⟩)/\a7a wy (R (M w4)) m r o z l D/\wy.cell? ⟨m,7,E⟩=G (I Y f)/\wy.cell? ⟨m,8,E⟩=G (U s (X c) cap)/\wy.cell? ⟨m,9,E⟩=G (U is (X ins) u)/\bl w4 wy)
 case first=>
  rename_i J1 K1' hJ1 hK1;refine XK [6] ac KS (bR _ _).drew (λap=> ?_);have ay:=nr;have a0:R (M w4.drew)=R (M w4):=rfl;generalize w4.drew=wq at *;refine QN 0 ?_;refine QN 2 ?_;refine QN 3 ?_;refine wN (i:=1) (j:=5) rfl rfl ac (λK hK=> ?_) (λK hK=> ?_)
  .go_simp
   go_at_call 45;go_call a3.out wq (H4.trans (ay.mono H4.size)) as e w5 ⟨o,z,l,D,rfl,OR,az⟩;obtain⟨ao,ah,af,ak,am,al,rfl,rfl,rfl,-⟩:=OR.at;have ar:=ay.trans (az.mono ay.size);go_wp2_with fail;refine hK.out _ _ (KS _ ar) (λap=> ?_);clear hK K;refine sm ?_;refine QN 4 ?_;refine av (i:=5) rfl ac (λK hK=> ?_);go_simp;have b2:bl w4 (w5.alloc (A #[I Y 0,U E 0 0,U E 0 0,I Y 0,U E 0 0,I Y 0,I Y 0,I Y 0,U E 0 0,U E 0 0] 98)):=ar.alloc ar.size _;refine hK.out _ _ (KS _ b2) (λap=> ?_);clear hK K;refine sm ?_;refine aM (i:=6) rfl ac ac (λK hK=> ?_);go_simp;refine hK.out _ _ ?_;clear hK K;refine sm ?_;refine aB ac ?_ _;refine hK1 _ _ (Met.intro (hJ1 _ _ ?_))
   (repeat apply Exists.intro)
   refine⟨?_,rfl⟩;have b1:bl w4 (w5.alloc (A #[I Y r.at_,U ao (X r.vq) ah,U af (X r.things) ak,I Y r.taken,U am (X r.lines) al,I Y r.fin,I Y v,I Y f,U s (X c) cap,U is (X ins) u] 98)):=ar.alloc ar.size _;have be:=(OR.below (w':=w5.alloc (A #[I Y r.at_,U ao (X r.vq) ah,U af (X r.things) ak,I Y r.taken,U am (X r.lines) al,I Y r.fin,I Y v,I Y f,U s (X c) cap,U is (X ins) u] 98)) ai).down (show R (M w4)<=R (M wq) by omega);refine⟨R (M w5),_,_,_,D,rfl,be.run' ?_ ar.size (λhm=> ?_),aE,aE,aE,b1⟩
   .refine⟨⟨?_,?_,?_,?_,?_,?_⟩,λj=> ?_⟩<;>simp[go_sem]
   .exact Q1 _ (OR.lt hm).1
  .go_simp
   have a2:bl w4 (wq.alloc (A #[I Y 0,U E 0 0,U E 0 0,I Y 0,U E 0 0,I Y 0,I Y 0,I Y 0,U E 0 0,U E 0 0] 98)):=ay.alloc ay.size _;have bx:∀j,j < 0+10->((wq.alloc (A #[I Y 0,U E 0 0,U E 0 0,I Y 0,U E 0 0,I Y 0,I Y 0,I Y 0,U E 0 0,U E 0 0] 98)).cell? ⟨R (M w4),j,E⟩).isSome=true:=by
    intro j hj;rw[<-a0]
    match j,hj with
    |0,_=>simp[go_sem]
    |1,_=>simp[go_sem]
    |2,_=>simp[go_sem]
    |3,_=>simp[go_sem]
    |4,_=>simp[go_sem]
    |5,_=>simp[go_sem]
    |6,_=>simp[go_sem]
    |7,_=>simp[go_sem]
    |8,_=>simp[go_sem]
    |9,_=>simp[go_sem]
    |n+10,h=>exact absurd h aa
   have bg:∀j,(wq.alloc (A #[I Y 0,U E 0 0,U E 0 0,I Y 0,U E 0 0,I Y 0,I Y 0,I Y 0,U E 0 0,U E 0 0] 98)).frozen? ⟨R (M w4),j,E⟩=false:=by
    intro j;rw[<-a0];simp[go_sem]
   have bv:R (M w4) < R (M (wq.alloc (A #[I Y 0,U E 0 0,U E 0 0,I Y 0,U E 0 0,I Y 0,I Y 0,I Y 0,U E 0 0,U E 0 0] 98))):=by simp[a0]
   have bf:R (M (wq.alloc (A #[I Y 0,U E 0 0,U E 0 0,I Y 0,U E 0 0,I Y 0,I Y 0,I Y 0,U E 0 0,U E 0 0] 98)))=R (M w4)+1:=by simp[a0]
   refine hK.out _ _ (KS _ a2) (λap=> ?_);clear hK K;refine sm ?_;(try rw[a0]);generalize wq.alloc _=wa at *;refine av (i:=1) rfl ac (λK hK=> ?_);go_simp;go_at_call 45;go_call a3.out wa (H4.trans (a2.mono H4.size)) as e w5 ⟨o,z,l,D,rfl,OR,az⟩;obtain⟨ao,ah,af,ak,am,al,rfl,rfl,rfl,-⟩:=OR.at;have ar:=a2.trans (az.mono a2.size);go_wp2_with fail;refine hK.out _ _ (KS _ ar) (λap=> ?_);clear hK K;refine sm ?_;have ad:∀j,j < 0+10->(w5.cell? ⟨R (M w4),j,E⟩).isSome=true:=λj hj=>by rw[az.cell (by simpa using bv)];exact bx j hj
   have ab:∀j,w5.frozen? ⟨R (M w4),j,E⟩=false:=λj=>by rw[az.frozen (by simpa using bv)];exact bg j
   obtain⟨u0,e0⟩:=q6.1 (ad 0 aa);have d0:=ab 0;obtain⟨u1,e1⟩:=q6.1 (ad 1 aa);have d1:=ab 1;obtain⟨u2,e2⟩:=q6.1 (ad 2 aa);have d2:=ab 2;obtain⟨u3,e3⟩:=q6.1 (ad 3 aa);have d3:=ab 3;obtain⟨u4,e4⟩:=q6.1 (ad 4 aa);have d4:=ab 4;obtain⟨u5,e5⟩:=q6.1 (ad 5 aa);have d5:=ab 5;obtain⟨u6,e6⟩:=q6.1 (ad 6 aa);have d6:=ab 6;obtain⟨u7,e7⟩:=q6.1 (ad 7 aa);have d7:=ab 7;obtain⟨u8,e8⟩:=q6.1 (ad 8 aa);have d8:=ab 8;obtain⟨u9,e9⟩:=q6.1 (ad 9 aa);have d9:=ab 9;refine QN 4 ?_;have bm:=aL (And.intro ad ab);clear bx bg ad ab;refine aM (i:=6) rfl ac ac (λK hK=> ?_);go_simp;refine hK.out _ _ ?_;clear hK K;refine sm ?_;refine aB ac ?_ _;refine hK1 _ _ (Met.intro (hJ1 _ _ ?_))
   (repeat apply Exists.intro)
   refine⟨?_,rfl⟩;show∃m o z l D,_=_/\a7a (bd w5 (R (M w4)) 0 [I Y r.at_,U ao (X r.vq) ah,U af (X r.things) ak,I Y r.taken,U am (X r.lines) al,I Y r.fin,I Y v,I Y f,U s (X c) cap,U is (X ins) u]) (R (M w4)) m r o z l D/\(bd w5 (R (M w4)) 0 [I Y r.at_,U ao (X r.vq) ah,U af (X r.things) ak,I Y r.taken,U am (X r.lines) al,I Y r.fin,I Y v,I Y f,U s (X c) cap,U is (X ins) u]).cell? ⟨m,7,E⟩=G (I Y f)/\(bd w5 (R (M w4)) 0 [I Y r.at_,U ao (X r.vq) ah,U af (X r.things) ak,I Y r.taken,U am (X r.lines) al,I Y r.fin,I Y v,I Y f,U s (X c) cap,U is (X ins) u]).cell? ⟨m,8,E⟩=G (U s (X c) cap)/\(bd w5 (R (M w4)) 0 [I Y r.at_,U ao (X r.vq) ah,U af (X r.things) ak,I Y r.taken,U am (X r.lines) al,I Y r.fin,I Y v,I Y f,U s (X c) cap,U is (X ins) u]).cell? ⟨m,9,E⟩=G (U is (X ins) u)/\bl w4 (bd w5 (R (M w4)) 0 [I Y r.at_,U ao (X r.vq) ah,U af (X r.things) ak,I Y r.taken,U am (X r.lines) al,I Y r.fin,I Y v,I Y f,U s (X c) cap,U is (X ins) u]);have HS:=Lk (R (M w4)) [I Y r.at_,U ao (X r.vq) ah,U af (X r.things) ak,I Y r.taken,U am (X r.lines) al,I Y r.fin,I Y v,I Y f,U s (X c) cap,U is (X ins) u] 0 w5 bm.out.1;have be:a7f (bd w5 (R (M w4)) 0 [I Y r.at_,U ao (X r.vq) ah,U af (X r.things) ak,I Y r.taken,U am (X r.lines) al,I Y r.fin,I Y v,I Y f,U s (X c) cap,U is (X ins) u]) (R (M w4)+1) r _ _ _ D:=(by rw[<-bf];exact OR.same λk Z=>Em _ _ (λe=>by have:=(OR.lt Z).2;omega) _ _ _)
   refine⟨R (M w4),_,_,_,D,rfl,be.run ?_ (Nat.le_succ _) (lR _) (Nat.lt_succ_self _),?_,?_,?_,wL _ (lR _) _ _ _ ar⟩
   .refine⟨⟨?_,?_,?_,?_,?_,?_⟩,λj=>by rw[CE];exact bm.out.2 j⟩
    .simpa using HS 0 ae
    .simpa using HS 1 ae
    .simpa using HS 2 ae
    .simpa using HS 3 ae
    .simpa using HS 4 ae
    .simpa using HS 5 ae
   .simpa using HS 7 ae
   .simpa using HS 8 ae
   .simpa using HS 9 ae
 obtain⟨m,o,z,l,D,rfl,O,c7,c8,c9,a4⟩:=hcut;have Hc:=H4.trans (a4.mono H4.size);obtain⟨CD,ID,TD⟩:=bt.out wc Hc;have HS:=aL (Lm v f c r HP.out.1 HP.out.2 ins m (R (M w4)) o z l D s cap is u wc O a4.size c7 c8 c9 CD ID TD b3);clear a3 bt HP KS CD ID TD;go_wp2_with fail;go_call HS.out as e w6 ⟨rfl,⟨b7,b4,ca,bz,O6⟩,M2,M3,M4⟩;clear HS M3 M4 O;obtain⟨ba,a6,bc,a5,a9,a7,rfl,rfl,rfl,-⟩:=O6.rows.at;have bb:=a4.trans M2;have H6:=H4.trans (bb.mono H4.size);have Z6:=Z4.call bb;obtain⟨⟨r0,r1,r2,r3,r4,r5⟩,rz,rf⟩:=id Z6;have g0:=rf 0;have g1:=rf 1;have g2:=rf 2;have g3:=rf 3;have g4:=rf 4;have g5:=rf 5;obtain⟨⟨m0,m1,m2,m3,m4,m5⟩,_⟩:=id O6.r6;have HY:=aL (And.intro ((O6.rows.set6 (b:=R (M w)+1+1) aa (I Y (bX f c ins r).at_) (U ba (X (bX f c ins r).vq) a6) (U bc (X (bX f c ins r).things) a5) (I Y (bX f c ins r).taken) (U a9 (X (bX f c ins r).lines) a7) (I Y (bX f c ins r).fin)).down (show R (M w)<=R (M w4) by omega)) (gX H6 (show R (M w)<=R (M w)+1+1 by omega) (I Y (bX f c ins r).at_) (U ba (X (bX f c ins r).vq) a6) (U bc (X (bX f c ins r).things) a5) (I Y (bX f c ins r).taken) (U a9 (X (bX f c ins r).lines) a7) (I Y (bX f c ins r).fin)));clear O6 Z6 Z4 rf bb M2 a4 Hc;generalize Qr:bX f c ins r=st at *;have b0:=aL Qr;clear Qr;go_wp2;refine bodyPost_ret (v:=Tu #[Ag #[I Y st.at_,U ba (X st.vq) a6,U bc (X st.things) a5,I Y st.taken,U a9 (X st.lines) a7,I Y st.fin],I Y 0]) VN rfl ?_;rw[b0.out];exact⟨_,_,_,bz,rfl,HY.out.1,HY.out.2⟩
structure a8y (w0 wr:World) (m:Nat) (v f:Nat) (c:lI) (ins:List Int) (zC k:Nat) (st:St) (s:oA) (cap:Nat) (is:oA) (ic:Nat):Prop where
 own:∃vv tv lv fv,a7a wr w0.heap.size m st vv tv lv fv
 low:bl w0 wr
 c7:wr.cell? ⟨m,7,E⟩=G (I Y f)
 c8:wr.cell? ⟨m,8,E⟩=G (U s c.length cap)
 c9:wr.cell? ⟨m,9,E⟩=G (U is ins.length ic)
 ok:a8h v f c st
 le:k<=zC
 rel:a8g f c ins zC (bQ v)=((a8g f c ins (zC - k) st).1,(a8g f c ins (zC - k) st).2+k)
 lines:st.lines.length<=k
 taken:st.taken<=k
def a8y.next{wr w':C}{m v f:Nat}{c:lI}{ins:List Int}{n k:Nat}{a:St}{s:oA}{cap:Nat}{is:oA}{u:Nat}{bs:List (Option Nat)}(h:a8y w0 wr m v f c ins n k a s cap is u)(t:a8r v f c)(P:a.fin=0)(Z:k < n)(q:n<=5000)(hs:a7p wr w' (R (M w0)) m bs (bX f c ins a)):a8y w0 w' m v f c ins n (k+1) (bX f c ins a) s cap is u:=by
 have F:=h.taken;have W:=h.lines;refine⟨hs.1,h.low.trans hs.2.1,by rw[hs.2.2.1 7 (by omega)];exact h.c7,by rw[hs.2.2.1 8 (by omega)];exact h.c8,by rw[hs.2.2.1 9 (by omega)];exact h.c9,a0C ins t h.ok aa,Z,?_,?_,?_⟩
 .rw[h.rel,show n - k=(n - (k+1))+1 by omega,Wh P]
  simp only[Prod.mk.injEq,true_and];omega
 .have:=Rd f c ins a;omega
 .have:=Mz f c ins a h.ok.tk aa;omega
def a3C(n:Nat)(w:C)(y:a2r w s c)(r:yv w is ins)(H:Tab w)(T:aA v f c=0)(q:n<=5000):
  Calls pG 19 #[Ag #[I Y (v:Int),I Y (f:Int),U s (X c) cap],U is (X ins) u,I Y (n:Int)] w λe w'=>∃o z l fv,e=Rt (Tu #[Ag #[I Y (fB v f c ins n).1.at_,o,z,I Y (fB v f c ins n).1.taken,l,I Y (fB v f c ins n).1.fin],I Y (fB v f c ins n).2,I Y 0])/\a7f w' (R (M w)) (fB v f c ins n).1 o z l fv/\a8h v f c (fB v f c ins n).1/\X (fB v f c ins n).1.lines<=5000/\bl w w':=by
 have t:=cU T;have W:v<=8:=by have:=t.v8;omega
 have P:n4 (R (M w)) w ((w.alloc (A #[I Y (v:Int),I Y (f:Int),U s (X c) cap] 24)).alloc (A #[I Y 0,U E 0 0,U E 0 0,I Y 0,U E 0 0,I Y 0] 33)):=ai;have Z0:=R6.new (w.alloc (A #[I Y (v:Int),I Y (f:Int),U s (X c) cap] 24)) 33 (I Y 0) (U E 0 0) (U E 0 0) (I Y 0) (U E 0 0) (I Y 0);rw[j0] at Z0;have af:=y.below P (lR _);have ar:=r.below P (lR _);have ap:=H.below P;have HB:=aL (RE v f s c cap ((w.alloc (A #[I Y (v:Int),I Y (f:Int),U s (X c) cap] 24)).alloc (A #[I Y 0,U E 0 0,U E 0 0,I Y 0,U E 0 0,I Y 0] 33)) af T);have p0:((w.alloc (A #[I Y (v:Int),I Y (f:Int),U s (X c) cap] 24)).alloc (A #[I Y 0,U E 0 0,U E 0 0,I Y 0,U E 0 0,I Y 0] 33)).cell? ⟨R (M w),0,E⟩=G (I Y v):=aE;have p1:((w.alloc (A #[I Y (v:Int),I Y (f:Int),U s (X c) cap] 24)).alloc (A #[I Y 0,U E 0 0,U E 0 0,I Y 0,U E 0 0,I Y 0] 33)).cell? ⟨R (M w),1,E⟩=G (I Y f):=aE;have p2:((w.alloc (A #[I Y (v:Int),I Y (f:Int),U s (X c) cap] 24)).alloc (A #[I Y 0,U E 0 0,U E 0 0,I Y 0,U E 0 0,I Y 0] 33)).cell? ⟨R (M w),2,E⟩=G (U s (X c) cap):=aE;have a1:R (M ((w.alloc (A #[I Y (v:Int),I Y (f:Int),U s (X c) cap] 24)).alloc (A #[I Y 0,U E 0 0,U E 0 0,I Y 0,U E 0 0,I Y 0] 33)))=R (M w)+1+1:=ae;have HQ:=aL t;clear y r H T t;go_enter func19,ntmps19;go_wp2_with fail;generalize ((w.alloc _).alloc _)=w0 at *;go_call HB.out as e K ⟨g,rfl,D,ad⟩;clear HB;rw[yU v W] at D;have ak:=ad.size;have H2:bl w0 (K.alloc (A #[I Y 0,U (G ⟨g,0,E⟩) v v,U E 0 0,I Y 0,U E 0 0,I Y 0] 33)):=ad.alloc ak _;have H3:bl w0 ((K.alloc (A #[I Y 0,U (G ⟨g,0,E⟩) v v,U E 0 0,I Y 0,U E 0 0,I Y 0] 33)).alloc (A #[I Y 0,U (G ⟨g,0,E⟩) v v,U E 0 0,I Y 0,U E 0 0,I Y 0,I Y v,I Y f,U s (X c) cap,U is (X ins) u] 98)):=H2.alloc au _;have R1:=Im W D;have R3:=R1.below (w':=(K.alloc (A #[I Y 0,U (G ⟨g,0,E⟩) v v,U E 0 0,I Y 0,U E 0 0,I Y 0] 33)).alloc (A #[I Y 0,U (G ⟨g,0,E⟩) v v,U E 0 0,I Y 0,U E 0 0,I Y 0,I Y v,I Y f,U s (X c) cap,U is (X ins) u] 98)) ai;have C3:Dk ((K.alloc (A #[I Y 0,U (G ⟨g,0,E⟩) v v,U E 0 0,I Y 0,U E 0 0,I Y 0] 33)).alloc (A #[I Y 0,U (G ⟨g,0,E⟩) v v,U E 0 0,I Y 0,U E 0 0,I Y 0,I Y v,I Y f,U s (X c) cap,U is (X ins) u] 98)) (R (M K)+1) (bQ v) (U (G ⟨g,0,E⟩) v v) (U E 0 0) (U E 0 0):=by
  refine⟨⟨?_,?_,?_,?_,?_,?_⟩,λj=> ?_⟩<;>simp[go_sem,bQ]
 have O3:=R3.run' C3 aa (λF=>by have:=(R1.lt F).1;omega)
 have RR:a8y w0 ((K.alloc (A #[I Y 0,U (G ⟨g,0,E⟩) v v,U E 0 0,I Y 0,U E 0 0,I Y 0] 33)).alloc (A #[I Y 0,U (G ⟨g,0,E⟩) v v,U E 0 0,I Y 0,U E 0 0,I Y 0,I Y v,I Y f,U s (X c) cap,U is (X ins) u] 98)) (R (M K)+1) v f c ins n 0 (bQ v) s cap is u:=
  ⟨⟨_,_,_,_,O3⟩,H3,aE,aE,aE,WP HQ.out,j1 _,ae,ma,ma⟩
 have a5:¬((n:Int) < 0):=aa;have a4:R (M w) < R (M K):=aa;have a2:¬(5000 < (n:Int)):=aa;have q0:K.cell? ⟨R (M w),0,E⟩=G (I Y v):=by rw[ad.cell (by simp;omega)];exact p0
 have q1:K.cell? ⟨R (M w),1,E⟩=G (I Y f):=by rw[ad.cell (by simp;omega)];exact p1
 have q2:K.cell? ⟨R (M w),2,E⟩=G (U s (X c) cap):=by rw[ad.cell (by simp;omega)];exact p2
 have al:=aL RR;clear R1 R3 C3 O3 H2 H3 D p0 p1 p2 RR;go_wp2
 generalize (K.alloc _).alloc _=w3 at *;go_loopw [12] (λi wr=>∃(k:Nat) (st:St),i=I Y k/\a8y w0 wr (R (M K)+1) v f c ins n k st s cap is u) (λi _=>n - (intOf i).toNat)
 case atStart=>exact⟨0,_,rfl,al.out⟩
 case round=>
  obtain⟨k,st,rfl,m⟩:=hrel;obtain⟨o,z,l,fv,O⟩:=m.own;obtain⟨vs,vc,B,V,ls,lc,rfl,rfl,rfl,-⟩:=O.rows.at;have l5:=O.fin_;have a3:=m.le;by_cases Z:st.fin=0
  .by_cases ao:k < n
   .have N:(k:Int) < (n:Int):=by omega
    rw[Z] at l5;have HS:=aL (Lm v f c st HQ.out m.ok ins (R (M K)+1) (R (M w0)) (U vs (X st.vq) vc) (U B (X st.things) V) (U ls (X st.lines) lc) fv s cap is u wr O m.low.size m.c7 m.c8 m.c9 (af.below m.low (lR _)) (ar.below m.low (lR _)) (ap.below m.low) (by have:=m.lines;omega))
    have HN:=aL (λ(w':C) (bs:List (Option Nat)) (hs:a7p wr w' (R (M w0)) (R (M K)+1) bs (bX f c ins st))=>m.next HQ.out Z ao q hs);clear O m;go_wp2_with fail;go_call HS.out as e w5 ⟨rfl,ah⟩;have ay:=aL (HN.out _ _ ah);clear HS HN ah;go_wp2;go_roundw
    case rel=>exact⟨k+1,_,aJ,ay.out⟩
    case measure=>exact aK
   .have ax:k=n:=by omega
    subst ax;rw[Z] at l5;have HE:Hid (fB v f c ins k=({st with fin:=4},k)):=by
     show _=_;rw[NY (s:=st) (k:=k) (by rw[m.rel,Nat.sub_self,AD (.inl rfl)];simp),if_pos Z]
    have d5:=O.thaw 5;have O4:=O.withFin 4;have Z5:=((Z0.below m.low Z0.2.1).same (w':=wr.setCell ⟨R (M K)+1,5,E⟩ (I Y 4)) (hSe _ _ _ _ au) bI);obtain⟨⟨r0,r1,r2,r3,r4,r5⟩,rz,a⟩:=id (Z0.below m.low Z0.2.1);obtain⟨⟨m0,m1,m2,m3,m4,m5⟩,_⟩:=id O.r6;have Z6:=Z5.put (I Y st.at_) (U vs (X st.vq) vc) (U B (X st.things) V) (I Y st.taken) (U ls (X st.lines) lc) (I Y 4);have ab:=(O4.rows.set6 (b:=R (M w)+1) aa (I Y st.at_) (U vs (X st.vq) vc) (U B (X st.things) V) (I Y st.taken) (U ls (X st.lines) lc) (I Y 4)).down (show R (M w)<=R (M w0) by omega);have HL:bl w (set6 (wr.setCell ⟨R (M K)+1,5,E⟩ (I Y 4)) (R (M w)+1) (I Y st.at_) (U vs (X st.vq) vc) (U B (X st.things) V) (I Y st.taken) (U ls (X st.lines) lc) (I Y 4)):=gX ((P.trans (m.low.mono aa)).setCell au _) aa _ _ _ _ _ _;have HY:=aL (And.intro ab (And.intro HL (m.ok.finish 4 aa aa)));have Q:=m.lines;clear O m O4 Z5 Z6 ab HL;go_wp2;refine bodyPost_ret (v:=Tu #[Ag #[I Y st.at_,U vs (X st.vq) vc,U B (X st.things) V,I Y st.taken,U ls (X st.lines) lc,I Y 4],I Y k,I Y 0]) UU rfl ?_;rw[HE.out];exact MK
  .have b5:(st.fin==0)=false:=by simpa using Z
   have HE:Hid (fB v f c ins n=(st,k)):=by
    show _=_;rw[NY (s:=st) (k:=k) (by rw[m.rel,AD (.inr Z)];simp),if_neg Z]
   have Z5:=Z0.below m.low Z0.2.1;obtain⟨⟨r0,r1,r2,r3,r4,r5⟩,rz,a⟩:=id Z5;obtain⟨⟨m0,m1,m2,m3,m4,m5⟩,_⟩:=id O.r6;have Z6:=Z5.put (I Y st.at_) (U vs (X st.vq) vc) (U B (X st.things) V) (I Y st.taken) (U ls (X st.lines) lc) (I Y st.fin);have ab:=(O.rows.set6 (b:=R (M w)+1) aa (I Y st.at_) (U vs (X st.vq) vc) (U B (X st.things) V) (I Y st.taken) (U ls (X st.lines) lc) (I Y st.fin)).down (show R (M w)<=R (M w0) by omega);have HL:bl w (set6 wr (R (M w)+1) (I Y st.at_) (U vs (X st.vq) vc) (U B (X st.things) V) (I Y st.taken) (U ls (X st.lines) lc) (I Y st.fin)):=gX (P.trans (m.low.mono aa)) aa _ _ _ _ _ _;have HY:=aL (And.intro ab (And.intro HL m.ok));have Q:=m.lines;clear O m Z5 Z6 ab HL;go_wp2;refine bodyPost_ret (v:=Tu #[Ag #[I Y st.at_,U vs (X st.vq) vc,U B (X st.things) V,I Y st.taken,U ls (X st.lines) lc,I Y st.fin],I Y k,I Y 0]) UU rfl ?_;rw[HE.out];exact MK
end
section
open Go.RowKit
def a1x:(fB 1 0 aV [] 10).1.fin=1:=cI
def a4l:(fB 1 0 aV [] 10).2=3:=cI
def Ta:(fB 1 0 aV [] 10).1.lines.map (·.data)=[#[53]]:=cI
def Sd:(bX 0 aV [] (bQ 1)).at_=1:=cI
def Wn:cu 1 0 aV (bQ 1)=0:=cI
def Uh:cu 1 0 aV (bX 0 aV [] (bQ 1))=0:=cI
def a0O:gY (bQ 1):=⟨cI,cI,cI,λt F=>by simp[bQ] at F⟩
def Yo:gY (bX 0 aV [] (bQ 1)):=by
 refine⟨cI,cI,cI,λt F=> ?_⟩;have h:X (bX 0 aV [] (bQ 1)).things=0:=cI;rw[J8 h] at F;simp at F
def GJ:(fB 1 0 aV [] 10).1.lines=[⟨#[53]⟩]:=by
 have h:=Ta;generalize (fB 1 0 aV [] 10).1.lines=l at h |-
 match l,h with
 |[⟨B⟩],h=>simp at h;rw[h]
def a6G (w':World)(e:Ending)(st:St)(er:Int):Prop:=∃vs vc ts tc ls lc,e=Rt (Tu #[Ag #[I Y st.at_,U vs (X st.vq) vc,U ts (X st.things) tc,I Y st.taken,U ls (X st.lines) lc,I Y st.fin],I Y er])/\a7s w' st vs ts ls
def Bg (V F:Int)(c:lI):St:=if aA V F c=0 then bQ V else a0U
def a7f.runAt{a:St}{k n m:oA}{N e j g c i:Nat}{D:List mh}(h:a7f w B a (U k N g) (U n e c) (U m j i) D):a7s w a k n m:=by
 obtain⟨_,_,_,_,_,_,l,o,r,q⟩:=h.at;cases l;cases o;cases r;exact q
def a1l(w:C)(y:a2r w s c):
  Calls pG 40 #[Ag #[I Y V,I Y F,U s (X c) cap]] w λe w'=>a6G w' e (Bg V F c) (aA V F c)/\bl w w':=by
 unfold Bg;by_cases a:aA V F c=0
 .have t:=cU a
  have W:=t.v8;obtain⟨v,rfl⟩:=j9 (show 0<=V by have:=t.v1;omega);go_call RE v F s c cap w y a as e w' ⟨g,rfl,D,T⟩;rw[yU v aa] at D;obtain⟨vs,N,B,i,K,P,l,o,r,Q⟩:=(Im aa D).at;rw[a,if_pos rfl];refine⟨⟨vs,N,B,i,K,P,?_,Q⟩,T⟩;rw[<-l,<-o,<-r];rfl
 .refine(a0h V F s c cap w y a).mono ?_
  rintro e w' ⟨rfl,T⟩;rw[if_neg a];exact⟨⟨E,0,E,0,E,0,rfl,a0b _⟩,T⟩
end
section
open Go.RowKit
attribute [local go_sem ↓] Go.wp_at_zero Go.wp_at_succ
section
variable (b:Nat)(w:C)(y:a2r w (G ⟨b,0,E⟩) aV)
def a2Q(H:Tab w):
  Calls pG 19 #[Ag #[I Y 1,I Y 0,U (G ⟨b,0,E⟩) 2 2],U E 0 0,I Y 10] w λe w'=>∃a F m s T t r k u j,e=Rt (Tu #[Ag #[I Y a,U F m s,U T t r,I Y k,U u 1 j,I Y 1],I Y 3,I Y 0])/\a8o w' u [⟨#[53]⟩]/\bl w w':=by
 go_call a3C 1 0 (G ⟨b,0,E⟩) aV 2 E 0 [] 10 w y (.inl rfl) H cI aa as e w' ⟨o,z,l,D,rfl,v,-,-,hb⟩;obtain⟨vs,N,B,V,K,P,rfl,rfl,rfl,h⟩:=v.at;have g:fB ((1:Nat):Int) ((0:Nat):Int) aV [] 10=fB 1 0 aV [] 10:=rfl;rw[g] at h |-;have W:=h.2.2;rw[GJ] at W;refine⟨(fB 1 0 aV [] 10).1.at_,vs,X (fB 1 0 aV [] 10).1.vq,N,B,X (fB 1 0 aV [] 10).1.things,V,(fB 1 0 aV [] 10).1.taken,K,P,?_,W,hb⟩;rw[a1x,a4l,GJ];rfl

def VR:
  Calls pG 40 #[Ag #[I Y 1,I Y 0,U (G ⟨b,0,E⟩) 2 2]] w λe w'=>∃t q u r lb2 s,e=Rt (Tu #[Ag #[I Y 0,U t 1 q,U u 0 r,I Y 0,U lb2 0 s,I Y 0],I Y 0])/\a7s w' (bQ 1) t u lb2/\bl w w':=by
 go_call a1l 1 0 _ aV 2 w y as e w' ⟨⟨vs,N,B,V,K,P,rfl,h⟩,T⟩;have a:=tE;have l:Bg 1 0 aV=bQ 1:=by unfold Bg;rw[if_pos a]
 rw[l] at h;refine⟨vs,N,B,V,K,P,?_,h,T⟩;rw[l,a];rfl
end
def a0W (b:Nat)(t:oA)(q:Nat)(u:oA)(r:Nat)(lb2:oA)(s:Nat)(w:C)(y:a2r w (G ⟨b,0,E⟩) aV)(j:a7s w (bQ 1) t u lb2)(H:Tab w):
  Calls pG 14 #[Ag #[I Y 1,I Y 0,U (G ⟨b,0,E⟩) 2 2],Ag #[I Y 0,U t 1 q,U u 0 r,I Y 0,U lb2 0 s,I Y 0],U E 0 0] w λe w'=>∃a k g n c m i D,e=Rt (Tu #[Ag #[I Y 1,U k (X a.vq) g,U n (X a.things) c,I Y a.taken,U m (X a.lines) i,I Y a.fin],I Y 0])/\a7f w' (R (M w)) a (U k (X a.vq) g) (U n (X a.things) c) (U m (X a.lines) i) D/\Hid (gY a)/\Hid (cu 1 0 aV a=0)/\Hid (a.at_=1)/\bl w w':=by
 go_call Hg 1 0 (G ⟨b,0,E⟩) aV 2 (bQ 1) t q u r lb2 s E 0 [] w y a0O j (.inl rfl) H cI Wn as e w' ⟨o,z,l,D,rfl,v,T⟩;obtain⟨vs,N,B,V,K,P,rfl,rfl,rfl,-⟩:=v.at;refine⟨bX 0 aV [] (bQ 1),vs,N,B,V,K,P,D,?_,v,Yo,Uh,Sd,T⟩;rw[show ((0:Nat):Int)=0 from rfl,Sd]

def Tt (b:Nat)(a:St)(k:oA)(g:Nat)(n:oA)(c:Nat)(m:oA)(i:Nat)(w:C)(y:a2r w (G ⟨b,0,E⟩) aV)(j:a7s w a k n m)(W:gY a)(T:cu 1 0 aV a=0)(q:a.at_=1):
  Calls pG 42 #[Ag #[I Y 1,I Y 0,U (G ⟨b,0,E⟩) 2 2],Ag #[I Y 1,U k (X a.vq) g,U n (X a.things) c,I Y a.taken,U m (X a.lines) i,I Y a.fin]] w λe w'=>e=Rt (I Y 0)/\bl w w':=by
 have h:=mC 1 0 _ aV 2 a k g n c m i w y W j;unfold dA at h;rw[q,T] at h;exact h

def Fu(h:p:=by
 have U9:=U5.put (I Y 1) (U cv (X st.vq) qF) (U ct (X st.things) qG) (I Y st.taken) (U cl (X st.lines) qH) (I Y st.fin);have E9:bl we (set6 w5 cb (I Y 1) (U cv (X st.vq) qF) (U ct (X st.things) qG) (I Y st.taken) (U cl (X st.lines) qH) (I Y st.fin)):=gX E5 zc _ _ _ _ _ _;have D9:a7s (set6 w5 cb (I Y 1) (U cv (X st.vq) qF) (U ct (X st.things) qG) (I Y st.taken) (U cl (X st.lines) qH) (I Y st.fin)) st cv ct cl:=HF.out _ _ _ _ _ _;obtain⟨⟨r0,r1,r2,r3,r4,r5⟩,rz,fz⟩:=id U5;refine rH1 7 λK hK=> ?_;go_simp;refine hK.out _ _ (qS.out _ (A0.call E9)) (λjH=> ?_);clear hK K;refine sm ?_;refine QO 8 ?_;refine wpAnyH_done ac ?_ _;first|refine hK1 _ _ (Met.intro (hJ _ _ ?_))|refine Met.intro (hJ _ _ ?_)|refine hJ _ _ ?_
 (repeat apply Exists.intro)
 refine⟨?_,rfl⟩;exact⟨cb,st,cv,qF,ct,qG,cl,qH,rfl,rfl,hl,h0,h1,U9,D9,R0.call E9,L0.below E9 (lR _),B0.trans (E9.mono B0.size)⟩):=h
def Ig(h:p:=by
 refine rH1 2 λK hK=> ?_;go_simp;refine(HS.out _ bv jI bt jJ lb2 jK w4 C4 (G0.below E4 (lR _)) (hT0.below E4)).mono ?_;rintro e w5 ⟨st,cv,qF,ct,qG,cl,qH,fv,rfl,O5,hl,h0,h1,xw⟩;have U5:=U4.call xw;have HF:=aL (λy0 y1 y2 y3 y4 y5=>(O5.set6 U4.2.1 y0 y1 y2 y3 y4 y5).runAt);have E5:=E4.trans (xw.mono E4.size);refine hK.out _ _ (qS.out _ (A0.call E5)) (λQv=> ?_);clear hK K;refine sm ?_;refine XE ?_;refine QO 5 ?_;clear xw;exact Fu):=h
def Ow (w:C)(H:Tab w):
  Calls pG 12 #[] w λe w'=>e=Rt (O W5)/\bl w w':=by
 have HR:=aL a2Q;have HB:=aL VR;have HS:=aL a0W;have l:=aL Tt;go_enter func12,ntmps12;go_wp2_with fail;go_call dI w as e w1 ⟨b1,rfl,D,vZ⟩;go_wp2_with fail;go_call HR.out _ w1 D (H.below vZ) as e n ⟨a,F,m,s,T,t,r,k,u,j,rfl,L2,xj⟩;have W:=lK;have L3:=L2.below (w':=n.alloc (A #[I Y a,U F m s,U T t r,I Y k,U u 1 j,I Y 1] 33)) ai (lR _);have R3:=R6.new n 33 (I Y a) (U F m s) (U T t r) (I Y k) (U u 1 j) (I Y 1);have B3:bl w (n.alloc (A #[I Y a,U F m s,U T t r,I Y k,U u 1 j,I Y 1] 33)):=W.alloc W.size _;clear L2 W vZ xj D HR;go_upto_region 2 with fail
 generalize n.alloc _=w3 at *;generalize (R (M n))=rb at *;go_wp2_with fail;go_call dI _ as e w4 ⟨b4,rfl,c4,xD⟩;go_wp2_with fail;go_call HB.out _ w4 c4 as e w5 ⟨bv,jI,bt,jJ,lb2,jK,rfl,G5,xw⟩;have H5:=xD.trans (xw.mono xD.size);have H6:bl w3 (w5.alloc (A #[I Y 0,U bv 1 jI,U bt 0 jJ,I Y 0,U lb2 0 jK,I Y 0] 33)):=H5.alloc H5.size _;have G0:=G5.below (w':=w5.alloc (A #[I Y 0,U bv 1 jI,U bt 0 jJ,I Y 0,U lb2 0 jK,I Y 0] 33)) ai (lR _);have A0:=R6.new w5 33 (I Y 0) (U bv 1 jI) (U bt 0 jJ) (I Y 0) (U lb2 0 jK) (I Y 0);have R0:=R3.call H6;have L0:=L3.below H6 (lR _);have B0:=B3.trans (H6.mono B3.size);have hT0:=H.below B0;clear G5 H5 H6 xD xw c4 HB R3 L3 B3 H;go_upto_region 3 with fail
 generalize w5.alloc _=we at *;generalize (R (M w5))=bb at *;have qS:=aL (λg (h:R6 g bb (I Y 0) (U bv 1 jI) (U bt 0 jJ) (I Y 0) (U lb2 0 jK) (I Y 0))=>h.1);go_cut [6,7] (λt6 t7 wc=>∃cb st cv qF ct qG cl qH,t6=Pp (G ⟨cb,0,E⟩)/\t7=I Y 0/\Hid (gY st)/\Hid (cu 1 0 aV st=0)/\Hid (st.at_=1)/\R6 wc cb (I Y 1) (U cv (X st.vq) qF) (U ct (X st.things) qG) (I Y st.taken) (U cl (X st.lines) qH) (I Y st.fin)/\a7s wc st cv ct cl/\R6 wc rb (I Y a) (U F m s) (U T t r) (I Y k) (U u 1 j) (I Y 1)/\a8o wc u [⟨#[53]⟩]/\bl w wc)
 case first=>
  rename_i J1 K1 hJ hK1;have Z:bl we we.drew:=(bR _ _).drew;refine XL ac qS.out (A0.call Z) (λy=> ?_);generalize we.drew=n at *;refine QO 1 ?_;refine wpAnyH_ready (rs:=[0,6]) ac ae ?_;refine AllReadyH.cons rfl (λK hK=> ?_) (AllReadyH.cons rfl (λK hK=> ?_) AllReadyH.nil)
  .go_simp
   go_call dI _ as e w3 ⟨q3,rfl,C3,z⟩;have E3:=Z.trans (z.mono Z.size);refine hK.out _ _ (qS.out _ (A0.call E3)) (λV=> ?_);clear hK K;refine sm ?_;clear z;refine wpAnyH_ready (rs:=[2,6]) ac ae ?_;refine AllReadyH.cons rfl (λK hK=> ?_) (AllReadyH.cons rfl (λK hK=> ?_) AllReadyH.nil)
   .go_simp
    go_call HS.out _ bv jI bt jJ lb2 jK w3 C3 (G0.below E3 (lR _)) (hT0.below E3) as e w4 ⟨st,cv,qF,ct,qG,cl,qH,fv,rfl,O4,hl,h0,h1,xD⟩;have E4:=yt;refine hK.out _ _ (qS.out _ (A0.call E4)) (λB=> ?_);clear hK K;refine sm ?_;refine XE ?_;refine QO 5 ?_;clear xD;refine rH1 6 λK hK=> ?_;go_simp;have xw:n4 (R (M w4)) w4 (w4.alloc (A #[I Y 0,U E 0 0,U E 0 0,I Y 0,U E 0 0,I Y 0] 33)):=ai;have U5:=R6.new w4 33 (I Y 0) (U E 0 0) (U E 0 0) (I Y 0) (U E 0 0) (I Y 0);have zc:=E4.size;have HF:=aL (λy0 y1 y2 y3 y4 y5=>(O4.runAt).below (w':=set6 (w4.alloc (A #[I Y 0,U E 0 0,U E 0 0,I Y 0,U E 0 0,I Y 0] 33)) (R (M w4)) y0 y1 y2 y3 y4 y5) (gX ai (lR _) _ _ _ _ _ _) (lR _));have E5:=E4.trans (xw.mono E4.size);refine hK.out _ _ (qS.out _ (A0.call E5)) (λQv=> ?_);clear hK K;refine sm ?_;clear xw;clear O4;generalize w4.alloc _=w5 at *;generalize (R (M w4))=cb at *;exact Fu
   .go_simp
    have xD:n4 (R (M w3)) w3 (w3.alloc (A #[I Y 0,U E 0 0,U E 0 0,I Y 0,U E 0 0,I Y 0] 33)):=ai;have U4:=R6.new w3 33 (I Y 0) (U E 0 0) (U E 0 0) (I Y 0) (U E 0 0) (I Y 0);have zc:=E3.size;have C4:=C3.below xD (lR _);have E4:=yt;refine hK.out _ _ (qS.out _ (A0.call E4)) (λB=> ?_);clear hK K;refine sm ?_;clear xD;generalize w3.alloc _=w4 at *;generalize (R (M w3))=cb at *;exact Ig
  .go_simp
   have z:n4 (R (M n)) n (n.alloc (A #[I Y 0,U E 0 0,U E 0 0,I Y 0,U E 0 0,I Y 0] 33)):=ai;have U3:=R6.new n 33 (I Y 0) (U E 0 0) (U E 0 0) (I Y 0) (U E 0 0) (I Y 0);have zc:=Z.size;have E3:=Z.trans (z.mono Z.size);refine hK.out _ _ (qS.out _ (A0.call E3)) (λV=> ?_);clear hK K;refine sm ?_;clear z;generalize n.alloc _=w3 at *;generalize (R (M n))=cb at *;refine rH1 0 λK hK=> ?_;go_simp;go_call dI _ as e w4 ⟨q4,rfl,C4,xD⟩;have U4:=U3.call xD;have E4:=yt;refine hK.out _ _ (qS.out _ (A0.call E4)) (λB=> ?_);clear hK K;refine sm ?_;clear xD;exact Ig
 case rest=>
  obtain⟨cb,st,cv,qF,ct,qG,cl,qH,rfl,rfl,hl,h0,h1,U1,D1,R1,L1,B1⟩:=hcut;clear A0 R0 L0 G0 B0 hT0 HS qS;rcases L1 with L1|⟨lb,lo,rfl,zl,L1⟩
  .simp at L1
  have L2:=L1 0 ae;clear L1;simp only[Nat.add_zero,List.getElem_cons_zero] at L2;obtain⟨⟨s0,s1,s2,s3,s4,s5⟩,sz,-⟩:=id R1;have ab:Hid (∀g,bl wc g->g.cell? ⟨rb,5,E⟩=G (I Y 1)/\g.cell? ⟨rb,4,E⟩=G (U (G ⟨lb,lo,E⟩) 1 j)/\g.cell? ⟨lb,lo,E⟩=G (.string ⟨#[53]⟩)/\g.cell? ⟨cb,0,E⟩=G (I Y 1)/\g.cell? ⟨cb,1,E⟩=G (U cv (X st.vq) qF)/\g.cell? ⟨cb,2,E⟩=G (U ct (X st.things) qG)/\g.cell? ⟨cb,3,E⟩=G (I Y st.taken)/\g.cell? ⟨cb,4,E⟩=G (U cl (X st.lines) qH)/\g.cell? ⟨cb,5,E⟩=G (I Y st.fin)):=λg N=>⟨by rw[N.cell (by simp only;exact sz)];exact s5,by rw[N.cell (by simp only;exact sz)];exact s4,by rw[N.cell (by simp only;exact zl)];exact L2,(U1.call N).1⟩;clear s4 s5 sz zl L2 R1 U1;have D0:=D1;clear D1;go_wp2;have Z:bl wc wc.drew:=(bR _ _).drew;refine XL ac ab.out Z (λy=> ?_);generalize wc.drew=n at *;refine QT ?_;refine QW ?_;refine XC ?_;refine QO 33 ?_;refine QO 34 ?_;refine QO 35 ?_;refine QO 36 ?_;refine QO 37 ?_;refine QO 39 ?_;refine rH1 38 λK hK=> ?_;go_simp;go_call dI _ as e w3 ⟨q3,rfl,C3,z⟩;have E3:=Z.trans (z.mono Z.size);refine hK.out _ _ (ab.out _ E3) (λV=> ?_);clear hK K;refine sm ?_;refine rH1 40 λK hK=> ?_;go_simp;go_call l.out _ st cv qF ct qG cl qH w3 C3 (D0.below E3 (lR _)) hl.out h0.out h1.out as e w4 ⟨rfl,xD⟩;have E4:=yt;refine hK.out _ _ (ab.out _ E4) (λB=> ?_);clear hK K;refine sm ?_;refine QO 41 ?_;refine QO 42 ?_;refine QO 43 ?_;refine wpAnyH_done ac ?_ _;go_wp2;refine bodyPost_ret (v:=O W5) ac rfl ⟨rfl,B1.trans (E4.mono B1.size)⟩
