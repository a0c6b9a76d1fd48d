import Derived.Test.YtmapdpcfanecdabGreatDoorQ04
import Derived.MapKept
import Derived.Test.YtmapdpcfanecdabGreatDoorQ07
open List renaming length→X,getElem_append_left→j5,set→j2
open Array renaming size→R
open Go.World renaming heap→M,cell?_drew→j4,size_alloc→zA
open Go.Ending renaming returned→Rt
open Go.IntKind renaming i64→j0,i64→Y
open Go.Obj renaming cells→Cc,cells→A
open Go.Proofs.Tryz renaming prog→pG,prog→f
open Go.RowKit.Below renaming refl→bR
open Go.Value renaming agg→Ag,pointer→Pp,slice→U,tuple→Tu,int→I,bool→O
open Nat renaming le_refl→lR,zero_add→j3
open Option renaming none→nO,none→E,some→G
open Go.RowKit renaming Below→n4
open Go renaming Value→mh,World→C
open Bool renaming false→BT,true→W5,false→d
set_option linter.all false
open Go.Proofs.Tryz
set_option maxHeartbeats 16000000
set_option maxRecDepth 100000
namespace Go.Proofs.YtmapdpcfanecdabGreatDoor
variable (V F:Int)(s:oA)(m len cap N T:Nat)(k c a b n q g:Int){P:Program}(i:Ins)(w:C)
variable {p:Prop}
section
open Go.RowKit
def RS(o:1<=V)(l:V<=8)(hF:0<=F)(m:F<=3)(j:len<=60):
  Calls f 58 #[Ag #[I Y V,I Y F,U s len cap],Ag #[I Y i.k,I Y i.tgt,I Y i.a,I Y i.b,I Y i.n,I Y i.g]] w λe w'=>e=Rt (I Y (bo V F len i))/\bl w w':=by
 obtain⟨k,c,a,b,n,g⟩:=i;by_cases h:btw k 1 19=W5
 .rcases rM h with rfl|rfl|rfl|rfl|rfl|rfl|rfl|rfl|rfl|rfl|rfl|rfl|rfl|rfl|rfl|rfl|rfl|rfl|rfl
  .exact WV V F s _ _ c a b n g w o l hF m j
  .exact Wd V F s _ _ c a b n g w o l hF m j
  .exact VQ V F s _ _ c a b n g w o l hF m j
  .exact Ye V F s _ _ c a b n g w o l hF m j
  .exact V0 V F s _ _ c a b n g w o l hF m j
  .exact VU V F s _ _ c a b n g w o l hF m j
  .exact V8 V F s _ _ c a b n g w o l hF m j
  .exact Wv V F s _ _ c a b n g w o l hF m j
  .exact Ya V F s _ _ c a b n g w o l hF m j
  .exact TJ V F s _ _ c a b n g w o l hF m j
  .exact ST V F s _ _ c a b n g w o l hF m j
  .exact Tk V F s _ _ c a b n g w o l hF m j
  .exact TT V F s _ _ c a b n g w o l hF m j
  .exact Tn V F s _ _ c a b n g w o l hF m j
  .exact TE V F s _ _ c a b n g w o l hF m j
  .exact T0 V F s _ _ c a b n g w o l hF m j
  .exact TL V F s _ _ c a b n g w o l hF m j
  .exact SK V F s _ _ c a b n g w o l hF m j
  .exact Tm V F s _ _ c a b n g w o l hF m j
 .exact Ua V F s _ _ k c a b n g w o l hF m j cn

def FE {V F L:Int}{c:lI}{k:Nat}(h:k < X c):ge V F L (c.drop k)=if bo V F L c[k]=0 then ge V F L (c.drop (k+1)) else bo V F L c[k]:=by
 rw[List.drop_eq_getElem_cons h];rfl

def Ci(b m cap:Nat)(c:lI)(w:C)(hV:1<=V)(xZ:V<=8)(hF:0<=F)(zd:F<=3)(j:X c<=60)(r:b < R (M w))(q:∀k (h:k < X c),a9b w b (m+k * 6) c[k]):
  Calls f 22 #[Ag #[I Y V,I Y F,U (G ⟨b,m,E⟩) (X c) cap]] w λe w'=>e=Rt (I Y (ge V F (X c) c))/\bl w w':=by
 have l:=wP;have o:=tF;go_enter func22,ntmps22;go_wp2_with (go_at_call 57;refine(fS _ _ _ _).mono ?_;rintro e w' ⟨rfl,rfl⟩);go_loopw [3] (λi wr=>∃k:Nat,k<=X c/\i=I Y k/\n4 (R (M w)+1) (w.alloc (A #[I Y V,I Y F,U (G ⟨b,m,E⟩) (X c) cap] 24)) wr/\Hid (ge V F (X c) (c.drop k)=ge V F (X c) c)) (λi _=>X c - (intOf i).toNat)
 case atStart=>exact⟨0,Nat.zero_le _,rfl,bR _ _,rfl⟩
 case round=>
  obtain⟨k,y,rfl,xA,HR⟩:=hrel;have W:wr.cell? ⟨R (M w),0,E⟩=G (I Y V):=K6;have x:wr.cell? ⟨R (M w),1,E⟩=G (I Y F):=K6;have P:wr.cell? ⟨R (M w),2,E⟩=G (U (G ⟨b,m,E⟩) (X c) cap):=K6;have D:R (M w) < R (M wr):=by have:=xA.size;simp at this;omega
  have H:b < R (M wr):=aa;by_cases v:k < X c
  .have hi:a9b wr b (m+k * 6) c[k]:=((q k v).below (Below.alloc (bR (R (M w)) w) (lR _) _) r).below xA aa
   obtain⟨i0,Q,Z,N,T,K⟩:=hi;have n0:=bG;have n1:=kA;go_wp2;go_region_held3 (λw'=>w'.cell? ⟨R (M w),0,E⟩=G (I Y V)/\w'.cell? ⟨R (M w),1,E⟩=G (I Y F)/\w'.cell? ⟨R (M w),2,E⟩=G (U (G ⟨b,m,E⟩) (X c) cap)
    /\w'.cell? ⟨b,m+k * 6,E⟩=G (I Y c[k].k)/\w'.cell? ⟨b,m+k * 6+1,E⟩=G (I Y c[k].tgt)/\w'.cell? ⟨b,m+k * 6+2,E⟩=G (I Y c[k].a)/\w'.cell? ⟨b,m+k * 6+3,E⟩=G (I Y c[k].b)/\w'.cell? ⟨b,m+k * 6+4,E⟩=G (I Y c[k].n)/\w'.cell? ⟨b,m+k * 6+5,E⟩=G (I Y c[k].g))
    (first|(simp only[j4,W,x,P,i0,Q,Z,N,T,K,and_self];done)|(simp only[u _ _ (show _ < R (M wr.drew) from D),u _ _ (show b < R (M wr.drew) from H),j4,W,x,P,i0,Q,Z,N,T,K,and_self];done))
    ((go_at_call 58;refine(RS V F _ _ _ c[k] _ hV xZ hF zd j).mono ?_;rintro e t ⟨rfl,s⟩;obtain⟨u,z⟩:=Mr s))
   clear u z;have S:=xA.drew.trans (Below.mono s (show R (M w)+1<=R (M wr) by omega));have B:=FE (V:=V) (F:=F) (L:=X c) v;by_cases hz:bo V F (X c) c[k]=0
   .rw[hz]
    go_wp2;go_roundw
    case rel=>exact⟨k+1,aa,aJ,S,by have:=HR.out;rw[B,if_pos hz] at this;exact this⟩
    case measure=>exact aK
   .rw[if_neg hz] at B
    have ab:(bo V F (X c) c[k]!=0)=true:=mT;go_wp2;go_ret;exact⟨bE (by have:=HR.out;rw[B] at this;exact this),(Below.alloc (bR _ _) (lR _) _).trans (S.mono aa)⟩
  .go_wp2
   go_ret;exact⟨bE VM,(Below.alloc (bR _ _) (lR _) _).trans (xA.mono aa)⟩

section
variable (hV:1<=V)(xZ:V<=8)(hF:0<=F)(zd:F<=3)
def Ek:
  Calls f 22 #[Ag #[I Y V,I Y F,U s 0 cap]] w λe w'=>e=Rt (I Y 0)/\bl w w':=by
 have l:=wP;have o:=tF;go_enter func22,ntmps22;go_wp2_with (go_at_call 57;refine(fS _ _ _ _).mono ?_;rintro e w' ⟨rfl,rfl⟩)
 go_rounds 1
 go_ret;exact cP

def vO(h:p:=by
 go_enter func22,ntmps22;go_wp2_with (go_at_call 57;refine(fS _ _ _ _).mono ?_;rintro e w' ⟨rfl,rfl⟩);go_ret;exact⟨rfl,ai⟩):=h
def Cm(t:60 < len):
  Calls f 22 #[Ag #[I Y V,I Y F,U s len cap]] w λe w'=>e=Rt (I Y 2)/\bl w w':=by
 have l:=wP;have o:=tF;have c:(60:Int) < (len:Int):=aa;exact vO
end
def Cg(l:btw V 1 8=d):
  Calls f 22 #[Ag #[I Y V,I Y F,U s len cap]] w λe w'=>e=Rt (I Y 3)/\bl w w':=by
 exact vO

def yP(l:btw V 1 8=W5)(o:btw F 0 3=d):
  Calls f 22 #[Ag #[I Y V,I Y F,U s len cap]] w λe w'=>e=Rt (I Y 3)/\bl w w':=by
 exact vO

def EB(c:lI)(w:C)(h:a2r w s c):
  Calls f 22 #[Ag #[I Y V,I Y F,U s (X c) cap]] w λe w'=>e=Rt (I Y (aA V F c))/\bl w w':=by
 unfold aA;cases t1:btw V 1 8 with
 |false=>simpa using Cg V F s (X c) cap w t1
 |true=>
  cases t2:btw F 0 3 with
  |false=>simpa using yP V F s (X c) cap w t1 t2
  |true=>
   have ⟨hV,xZ⟩:1<=V/\V<=8:=by simpa[btw] using t1
   have ⟨hF,zd⟩:0<=F/\F<=3:=by simpa[btw] using t2
   by_cases t:60 < X c
   .simpa[t] using Cm V F s _ cap w hV xZ hF zd t
   .rcases h with rfl|⟨b,m,rfl,r,q⟩
    .simpa[ge] using Ek V F s cap w hV xZ hF zd
    .simpa[t] using Ci V F b m cap c w hV xZ hF zd aa r q
abbrev Shp:=Int×ByteArray×List Int

def Ad (ps:List Int):Array Value:=(ps.map λp=>Value.int .i64 p).toArray
def GL (N:Nat)(j:Nat)(s:Shp):Value:=Ag #[.string s.2.1,if s.2.2=[] then U E 0 0 else U (G ⟨N+1+j,0,E⟩) (X s.2.2) (X s.2.2)]
def ur (N:Nat)(j:Nat)(s:Shp):MapEntry:=⟨.int .i64 s.1,GL N j s,j⟩
def dL (N:Nat):Nat->List Shp->List MapEntry
 |_,[]=>[]
 |j,s::r=>ur N j s::dL N (j+1) r

structure a7i (N:Nat) (l:List Shp) (w:World):Prop where
 map:w.heap[N]? =G (.map (dL N 0 l).toArray l.length)
 parts:∀j (h:j < l.length),l[j].2.2≠[]->w.heap[N+1+j]? =G (A (Ad l[j].2.2) 225)

def Cj(l:List Shp)(s:Shp):∀j,dL N j (l++[s])=dL N j l++[ur N (j+X l) s]:=by
 induction l with
 |nil=>intro j;rfl
 |cons x r ih=>intro j;simp only[List.cons_append,dL,ih (j+1),List.length_cons,Nat.add_assoc,Nat.add_comm 1]

def CC(l:List Shp):∀i j,(∀s∈l,s.1≠k)->Instr.findNow (.int .i64) (I Y k) (dL N j l) i=G none:=by
 induction l with
 |nil=>intro i j _;rfl
 |cons x r ih=>
  intro i j h;have F:(k==x.1)=false:=by simpa using λe=>h x (by simp) e.symm
  simp only[dL,Instr.findNow,ur,Instr.sameNow,if_true,F];exact ih (i+1) (j+1) (λs hs=>h s (by simp[hs]))

def bB{N:Nat}{l:List Shp}{wx w:C}{T:Array Oper}{rest:List Oper}{o:Oper}{a:Act}{Q:Exit->Act->C->Prop}{B:Nat}{w0:C}(W:o.guard=nO)(m x v:Operand)(t Z g:TypeId)(ao:o.op=Op.insert t m x v)(b:P.underlying t=G (.map Z g))(y:P.underlying Z=G (.int .i64))(k:Int)(K:ByteArray)(u:List Int)(hm:a.eval m=.map (G N))(F:a.eval x=I Y k)(z:a.eval v=GL N (X l) (k,K,u))(hw:w=if u=[] then wx else wx.alloc (A (Ad u) 225))(hs:a7i N l wx)(ap:R (M wx)=N+1+X l)(r:n4 B w0 wx)(D:B<=N)(S:∀s∈l,s.1≠k)(L:∀w',a7i N (l++[(k,K,u)]) w'->R (M w')=R (M w)->n4 B w0 w'->wpList P T Q rest (a.put o.dst undef) w'):
  wpList P T Q (o::rest) a w:=by
 refine wpList_plain W λK' ar=> ?_;have ax:n4 B w0 w:=by
  rw[hw];split
  .exact r
  .exact r.alloc aa _
 have ab:∀i,i < R (M wx)->w.heap[i]? =wx.heap[i]? :=by
  intro i hi;rw[hw];split
  .rfl
  .exact Below.heap_alloc _ _ _ hi
 have n:w.heap[N]? =G (.map (dL N 0 l).toArray (X l)):=by rw[ab N (by omega)];exact hs.map
 have c:=CC N k l 0 0 S;have q:(Instr.checkKey d 10000 Z (I Y k)).run P w=.ok () w:=MapKept.run_checkKey (k:=I Y k) y rfl d 9999;have af:(dL N 0 l).toArray.push ⟨I Y k,GL N (X l) (k,K,u),X l⟩=(dL N 0 (l++[(k,K,u)])).toArray:=by
  simp[Cj,ur]
 obtain⟨E,hE⟩:∃E,E=(dL N 0 (l++[(k,K,u)])).toArray:=⟨_,rfl⟩;rw[<-hE] at af;obtain⟨w2,ah⟩:∃w2,w2={w with heap:=w.heap.setIfInBounds N (.map E (X l+1))}:=⟨_,rfl⟩;have al:(Instr.mapUpdate t (.map (G N)) (I Y k) (GL N (X l) (k,K,u))).run P w=.ok () w2:=by
  simp only[Instr.mapUpdate,Sem.run_bind,run_underlying b,MapKept.run_getObj_map n,q,MapKept.run_findKey y c,af,MapKept.run_setObj_map _ n,Result.andThen,ah]
 have ad:=MapKept.heap_set (o':=.map E (X l+1)) n;have H:w2.heap=w.heap.setIfInBounds N (.map E (X l+1)):=by rw[ah]
 unfold Oper.wp;simp[execOp,ao,hm,F,z,al,Result.andThen];refine ar _ _ (L _ ⟨?_,?_⟩ (by rw[H];simp) ?_)
 .rw[H,ad.1,hE];simp
 .intro j V e
  rw[H,ad.2 (N+1+j) aa];by_cases ak:j < X l
  .rw[j5 ak] at e
   simp only[j5 ak];rw[ab _ aa];exact hs.parts j ak e
  .have am:j=X l:=by simp at V;omega
   subst am;simp only[List.getElem_append_right (lR _),Nat.sub_self,List.getElem_cons_zero] at e |-;rw[hw,if_neg e,<-ap];exact(MapKept.heap_alloc wx _).1
 .exact ax.trans ⟨by rw[ah],by rw[ah],by rw[ah],by rw[H];simp,λi hi=>by rw[H];exact ad.2 i (by omega)⟩

def a7k:List Shp:=[(1,bi 1,[0,4]),(2,bi 2,[0,5]),(3,bi 3,[0]),(4,bi 4,[0,1]),(5,bi 5,[0,1,2]),(6,bi 6,[0,1,2]),(7,bi 7,[0,1,2]),(8,bi 8,[0,1,2]),(9,bi 9,[0,1,2]),(10,bi 10,[0,1]),
 (11,bi 11,[0]),(12,bi 12,[0,1,7]),(13,bi 13,[1,7,2]),(14,bi 14,[0,6]),(15,bi 15,[1,3]),(16,bi 16,[3]),(17,bi 17,[1]),(18,bi 18,[1]),(19,bi 19,[])]

def G9:
  Calls f 127 #[] w λe w'=>e=Rt (.map (G (R (M w))))/\a7i (R (M w)) a7k w'/\bl w w':=by
 have b7:= @run_makeMap f;have b6:a7i (R (M w)) (a7k.take 0) (w.alloc (.map #[] 0)):=⟨by simpa[dL] using(MapKept.heap_alloc w (.map #[] 0)).1,λj h=>absurd h ae⟩;have bm:R (M (w.alloc (.map #[] 0)))=R (M w)+1:=ae;have i:bl w (w.alloc (.map #[] 0)):=(bR _ _).alloc (lR _) _;go_enter func127,ntmps127;go_wp2_with (first
  |(refine bB (N:=R (M w)) (l:=a7k.take 0) (wx:=(w.alloc (.map #[] 0))) (w0:=w) (B:=R (M w)) rfl _ _ _ 179 3 228 rfl underlying179 underlying3 1 (bi 1) [0,4] rfl rfl rfl rfl b6 bm i (lR _) an ?_;intro t ay u s;replace ay:a7i (R (M w)) (a7k.take 1) t:=ay;replace u:R (M t)=R (M w)+2:=by simpa[bm] using u)
  |(refine bB (N:=R (M w)) (l:=a7k.take 1) (wx:=t) (w0:=w) (B:=R (M w)) rfl _ _ _ 179 3 228 rfl underlying179 underlying3 2 (bi 2) [0,5] rfl rfl rfl rfl ay u s (lR _) an ?_;intro Q a5 r bx;replace a5:a7i (R (M w)) (a7k.take 2) Q:=a5;replace r:R (M Q)=R (M w)+3:=by simpa[u] using r)
  |(refine bB (N:=R (M w)) (l:=a7k.take 2) (wx:=Q) (w0:=w) (B:=R (M w)) rfl _ _ _ 179 3 228 rfl underlying179 underlying3 3 (bi 3) [0] rfl rfl rfl rfl a5 r bx (lR _) an ?_;intro w3 ah ad bz;replace ah:a7i (R (M w)) (a7k.take 3) w3:=ah;replace ad:R (M w3)=R (M w)+4:=by simpa[r] using ad)
  |(refine bB (N:=R (M w)) (l:=a7k.take 3) (wx:=w3) (w0:=w) (B:=R (M w)) rfl _ _ _ 179 3 228 rfl underlying179 underlying3 4 (bi 4) [0,1] rfl rfl rfl rfl ah ad bz (lR _) an ?_;intro w4 a2 Z b3;replace a2:a7i (R (M w)) (a7k.take 4) w4:=a2;replace Z:R (M w4)=R (M w)+5:=by simpa[ad] using Z)
  |(refine bB (N:=R (M w)) (l:=a7k.take 4) (wx:=w4) (w0:=w) (B:=R (M w)) rfl _ _ _ 179 3 228 rfl underlying179 underlying3 5 (bi 5) [0,1,2] rfl rfl rfl rfl a2 Z b3 (lR _) an ?_;intro w5 ak W b1;replace ak:a7i (R (M w)) (a7k.take 5) w5:=ak;replace W:R (M w5)=R (M w)+6:=by simpa[Z] using W)
  |(refine bB (N:=R (M w)) (l:=a7k.take 5) (wx:=w5) (w0:=w) (B:=R (M w)) rfl _ _ _ 179 3 228 rfl underlying179 underlying3 6 (bi 6) [0,1,2] rfl rfl rfl rfl ak W b1 (lR _) an ?_;intro w6 am T b2;replace am:a7i (R (M w)) (a7k.take 6) w6:=am;replace T:R (M w6)=R (M w)+7:=by simpa[W] using T)
  |(refine bB (N:=R (M w)) (l:=a7k.take 6) (wx:=w6) (w0:=w) (B:=R (M w)) rfl _ _ _ 179 3 228 rfl underlying179 underlying3 7 (bi 7) [0,1,2] rfl rfl rfl rfl am T b2 (lR _) an ?_;intro w7 a7 ab b5;replace a7:a7i (R (M w)) (a7k.take 7) w7:=a7;replace ab:R (M w7)=R (M w)+8:=by simpa[T] using ab)
  |(refine bB (N:=R (M w)) (l:=a7k.take 7) (wx:=w7) (w0:=w) (B:=R (M w)) rfl _ _ _ 179 3 228 rfl underlying179 underlying3 8 (bi 8) [0,1,2] rfl rfl rfl rfl a7 ab b5 (lR _) an ?_;intro w8 a1 V b0;replace a1:a7i (R (M w)) (a7k.take 8) w8:=a1;replace V:R (M w8)=R (M w)+9:=by simpa[ab] using V)
  |(refine bB (N:=R (M w)) (l:=a7k.take 8) (wx:=w8) (w0:=w) (B:=R (M w)) rfl _ _ _ 179 3 228 rfl underlying179 underlying3 9 (bi 9) [0,1,2] rfl rfl rfl rfl a1 V b0 (lR _) an ?_;intro w9 az S b4;replace az:a7i (R (M w)) (a7k.take 9) w9:=az;replace S:R (M w9)=R (M w)+10:=by simpa[V] using S)
  |(refine bB (N:=R (M w)) (l:=a7k.take 9) (wx:=w9) (w0:=w) (B:=R (M w)) rfl _ _ _ 179 3 228 rfl underlying179 underlying3 10 (bi 10) [0,1] rfl rfl rfl rfl az S b4 (lR _) an ?_;intro ax P q be;replace P:a7i (R (M w)) (a7k.take 10) ax:=P;replace q:R (M ax)=R (M w)+11:=by simpa[S] using q)
  |(refine bB (N:=R (M w)) (l:=a7k.take 10) (wx:=ax) (w0:=w) (B:=R (M w)) rfl _ _ _ 179 3 228 rfl underlying179 underlying3 11 (bi 11) [0] rfl rfl rfl rfl P q be (lR _) an ?_;intro ar F b bt;replace F:a7i (R (M w)) (a7k.take 11) ar:=F;replace b:R (M ar)=R (M w)+12:=by simpa[q] using b)
  |(refine bB (N:=R (M w)) (l:=a7k.take 11) (wx:=ar) (w0:=w) (B:=R (M w)) rfl _ _ _ 179 3 228 rfl underlying179 underlying3 12 (bi 12) [0,1,7] rfl rfl rfl rfl F b bt (lR _) an ?_;intro ap z n a9;replace z:a7i (R (M w)) (a7k.take 12) ap:=z;replace n:R (M ap)=R (M w)+13:=by simpa[b] using n)
  |(refine bB (N:=R (M w)) (l:=a7k.take 12) (wx:=ap) (w0:=w) (B:=R (M w)) rfl _ _ _ 179 3 228 rfl underlying179 underlying3 13 (bi 13) [1,7,2] rfl rfl rfl rfl z n a9 (lR _) an ?_;intro a4 y c a8;replace y:a7i (R (M w)) (a7k.take 13) a4:=y;replace c:R (M a4)=R (M w)+14:=by simpa[n] using c)
  |(refine bB (N:=R (M w)) (l:=a7k.take 13) (wx:=a4) (w0:=w) (B:=R (M w)) rfl _ _ _ 179 3 228 rfl underlying179 underlying3 14 (bi 14) [0,6] rfl rfl rfl rfl y c a8 (lR _) an ?_;intro a6 L o ba;replace L:a7i (R (M w)) (a7k.take 14) a6:=L;replace o:R (M a6)=R (M w)+15:=by simpa[c] using o)
  |(refine bB (N:=R (M w)) (l:=a7k.take 14) (wx:=a6) (w0:=w) (B:=R (M w)) rfl _ _ _ 179 3 228 rfl underlying179 underlying3 15 (bi 15) [1,3] rfl rfl rfl rfl L o ba (lR _) an ?_;intro al v m bs;replace v:a7i (R (M w)) (a7k.take 15) al:=v;replace m:R (M al)=R (M w)+16:=by simpa[o] using m)
  |(refine bB (N:=R (M w)) (l:=a7k.take 15) (wx:=al) (w0:=w) (B:=R (M w)) rfl _ _ _ 179 3 228 rfl underlying179 underlying3 16 (bi 16) [3] rfl rfl rfl rfl v m bs (lR _) an ?_;intro ao K a bc;replace K:a7i (R (M w)) (a7k.take 16) ao:=K;replace a:R (M ao)=R (M w)+17:=by simpa[m] using a)
  |(refine bB (N:=R (M w)) (l:=a7k.take 16) (wx:=ao) (w0:=w) (B:=R (M w)) rfl _ _ _ 179 3 228 rfl underlying179 underlying3 17 (bi 17) [1] rfl rfl rfl rfl K a bc (lR _) an ?_;intro a3 H g bf;replace H:a7i (R (M w)) (a7k.take 17) a3:=H;replace g:R (M a3)=R (M w)+18:=by simpa[a] using g)
  |(refine bB (N:=R (M w)) (l:=a7k.take 17) (wx:=a3) (w0:=w) (B:=R (M w)) rfl _ _ _ 179 3 228 rfl underlying179 underlying3 18 (bi 18) [1] rfl rfl rfl rfl H g bf (lR _) an ?_;intro a0 x k bb;replace x:a7i (R (M w)) (a7k.take 18) a0:=x;replace k:R (M a0)=R (M w)+19:=by simpa[g] using k)
  |(refine bB (N:=R (M w)) (l:=a7k.take 18) (wx:=a0) (w0:=w) (B:=R (M w)) rfl _ _ _ 179 3 228 rfl underlying179 underlying3 19 (bi 19) [] rfl rfl rfl rfl x k bb (lR _) an ?_;intro bv D af bg;replace D:a7i (R (M w)) (a7k.take 19) bv:=D;replace af:R (M bv)=R (M w)+19:=by simpa[k] using af))
 go_ret;exact⟨rfl,D,bg⟩

def a7i.below {B N:Nat}{l:List Shp}{w w':C}(h:a7i N l w)(r:n4 B w w')(D:R (M w)<=B):a7i N l w':=by
 have lt:∀{i:Nat} {o:Obj},w.heap[i]? =G o->i < R (M w):=λh=>(Array.getElem?_eq_some_iff.1 h).1;exact⟨by rw[r.block _ (by have:=lt h.map;omega)];exact h.map,λj V e=>by rw[r.block _ (by have:=lt (h.parts j V e);omega)];exact h.parts j V e⟩

section
variable {N:Nat}{w:C}{j:Array MapEntry}{a:Nat}(t kt g:TypeId)(b:P.underlying t=G (.map kt g))(hk:P.underlying kt=G (.int .i64))(n:w.heap[N]? =G (.map j a))
def a2O(k:Int)(i:Nat)(v:mh)(c:Instr.findNow (.int .i64) (I Y k) j.toList 0=G (G (i,v))):(Instr.lookup t (.map (G N)) (I Y k) W5).run P w=.ok (Tu #[v,O W5]) w:=by
 have q:=RH;simp[Instr.lookup,run_underlying b,MapKept.run_getObj_map n,q,MapKept.run_findKey hk c,Result.andThen]

def Ly(z:mh)(i:(zeroValue g).run P w=.ok z w)(k:Int)(c:Instr.findNow (.int .i64) (I Y k) j.toList 0=G E):(Instr.lookup t (.map (G N)) (I Y k) W5).run P w=.ok (Tu #[z,O d]) w:=by
 have q:=RH;simp[Instr.lookup,run_underlying b,MapKept.run_getObj_map n,q,MapKept.run_findKey hk c,i,Result.andThen]
end
def a1w:(zeroValue 228).run f w=.ok (Ag #[.string ⟨#[]⟩,U E 0 0]) w:=ac

section
variable {N:Nat}{w:C}(h:a7i N a7k w)(k:Int)
def a4z(y:btw k 1 19=d):(Instr.lookup 179 (.map (G N)) (I Y k) W5).run f w=.ok (Tu #[Ag #[.string ⟨#[]⟩,U E 0 0],O d]) w:=by
 refine Ly _ 3 _ underlying179 underlying3 h.map _ (a1w w) k (CC N k a7k 0 0 ?_);have:¬(1<=k/\k<=19):=by simpa[btw] using y
 intro s hs;simp only[a7k,List.mem_cons,List.not_mem_nil,or_false] at hs;rcases hs with rfl|rfl|rfl|rfl|rfl|rfl|rfl|rfl|rfl|rfl|rfl|rfl|rfl|rfl|rfl|rfl|rfl|rfl|rfl<;>simp only<;>omega

def dK(i:Nat)(v:mh)(c:Instr.findNow (.int .i64) (I Y k) (dL N 0 a7k) 0=G (G (i,v))):(Instr.lookup 179 (.map (G N)) (I Y k) W5).run f w=.ok (Tu #[v,O W5]) w:=
 a2O _ 3 228 underlying179 underlying3 h.map k i v c
end
def lo (q:Int):Int:=if q=4 then -2147483648 else 0
def hi (V F L q:Int):Int:=if q=4 then 2147483647 else if q=5 then 1 else if q=6 then 1000000 else if q=7 then F - 1 else if q=3 then L else V - 1
def er (q:Int):Int:=if q=4\/q=5\/q=6 then 3 else 5

def Wq(o:1<=V)(j:V<=8)(r:0<=F)(l:F<=3)(m:len<=60)(hq:0<=q/\q<=7):
  Calls f 186 #[Ag #[I Y V,I Y F,U s len cap],I Y q] w λe w'=>e=Rt (Tu #[I Y (lo q),I Y (hi V F len q),I Y (er q)])/\bl w w':=by
 have:q=0\/q=1\/q=2\/q=3\/q=4\/q=5\/q=6\/q=7:=aa;rcases this with rfl|rfl|rfl|rfl|rfl|rfl|rfl|rfl;all_goals
  go_enter func186,ntmps186;go_wp2;try (go_quiet (fail);go_wp2)
  go_ret3
  exact⟨rfl,by first|(go_grown;done)|exact below_drewN (by go_grown) _⟩
def aR {N:Nat}{w:C}(h:a7i N a7k w)(j i:Nat)(V:j < X a7k)(e:a7k[j].2.2≠[])(v:mh)(z:(Ad a7k[j].2.2)[i]? =G v):w.cell? ⟨N+1+j,i,E⟩=G v/\N+1+j < R (M w):=by
 have r:=h.parts j V e;exact⟨by simp[World.cell?,r,z],(Array.getElem?_eq_some_iff.1 r).1⟩
def fC(h:p:=by
 have l0:lo 0=0:=rfl;have m0:hi V F len 0=V - 1:=rfl;have e0:er 0=5:=rfl;have l1:lo 1=0:=rfl;have m1:hi V F len 1=V - 1:=rfl;have e1:er 1=5:=rfl;have l2:lo 2=0:=rfl;have m2:hi V F len 2=V - 1:=rfl;have e2:er 2=5:=rfl;have l3:lo 3=0:=rfl;have m3:hi V F len 3=(len:Int):=rfl;have e3:er 3=5:=rfl;have l4:lo 4= -2147483648:=rfl;have m4:hi V F len 4=2147483647:=rfl;have e4:er 4=3:=rfl;have l5:lo 5=0:=rfl;have m5:hi V F len 5=1:=rfl;have e5:er 5=3:=rfl;have l6:lo 6=0:=rfl;have m6:hi V F len 6=1000000:=rfl;have e6:er 6=3:=rfl;have l7:lo 7=0:=rfl;have m7:hi V F len 7=F - 1:=rfl;have e7:er 7=5:=rfl;have z1:=Nat.lt_add_right 1 hz;have z2:=Nat.lt_add_right 1 z1;have z3:=Nat.lt_add_right 1 z2;have z4:=Nat.lt_add_right 1 z3;have x3:¬_:=Nat.ne_of_lt z3;go_enter func128,ntmps128;go_wp2;refine wp_loop_rounds 4 ?_;iterate 4 (try any_goals (rw[rounds_succ];go_wp2_with (first|(go_at_call 186;refine(Wq V F _ _ _ _ _ hV xZ hF zd hL ?hq).mono ?_;(case hq=>decide);rintro e w1 ⟨rfl,vZ⟩;obtain⟨hc1,hf1⟩:=Mr vZ;have qo:R (M w)+3 < R (M w1):=lV;have qt:R (M w) < R (M w1):=aa;have hz3:R (M w)+1 < R (M w1):=aa;have hz4:R (M w)+1+1 < R (M w1):=aa;have hz5:R (M w)+1+1+1 < R (M w1):=aa;have hz6:=Nat.lt_trans hz qt;have HB:Below (R (M w)) w w1:=Below.trans ai (vZ.mono lg))|go_in)))
 all_goals go_ret
 all_goals refine⟨bE ?_,ai⟩
 all_goals clear hl
 all_goals (try clear p0)
 all_goals (try clear p1)
 all_goals (try clear p2)
 all_goals simp[bo,nTo,nA,nB,nN,nG,btw]
 all_goals omega):=h
def Tab (w:World):Prop:=Lib.TabIs f w "internal/strconv.uint64pow10" .u64 Lib.pow10Tab
def WW:∃g,Tryz.prog.globalNamed "internal/strconv.uint64pow10" =G g:=by
 have h:(Tryz.prog.globalNamed "internal/strconv.uint64pow10").isSome=true:=ac;exact Option.isSome_iff_exists.1 h
def Tab.below {w w':C}(h:Tab w)(r:bl w w'):Tab w':=by
 obtain⟨g,W⟩:=WW;have q:=h.cell W 0 an;exact var?_below r W (World.block_lt_of_cell? w _ q) h

def a3b(h:a5A n)(b:Tab w):
  Calls f 118 #[I Y n] w λe w'=>e=Rt (.string (Mt n))/\bl w w':=by
 go_call Tryz.strconv_Itoa n h.1 h.2 w b as e w' ⟨rfl,k,a,rfl⟩;exact⟨rfl,⟨rfl,rfl,rfl,by simp[Sort.grow],λi hi=>by simp[Sort.grow,Array.getElem?_append,World.drewN,hi]⟩⟩
section
variable (hV:1<=V)(xZ:V<=8)(hF:0<=F)(zd:F<=3)(hL:len<=60)(hs:a7i N a7k w)
def PC:
  Calls f 128 #[Ag #[I Y V,I Y F,U s len cap],.map (G N),Ag #[I Y 1,I Y c,I Y a,I Y b,I Y n,I Y g]] w λe w'=>e=Rt (I Y (bo V F len ⟨1,c,a,b,n,g⟩))/\bl w w':=by
 have i:n4 (R (M w)) w ((w.alloc (A #[I Y V,I Y F,U s len cap] 24)).alloc (A #[I Y 1,I Y c,I Y a,I Y b,I Y n,I Y g] 100)):=ai;have hl:(Instr.lookup 179 (.map (G N)) (I Y 1) W5).run f _=.ok (Tu #[Ag #[.string (bi 1),U (G ⟨N+1,0,E⟩) 2 2],O W5]) _:=dK (hs.below i (lR _)) 1 0 _ rfl;have hz:N+1 < R (M w):=(aR hs 0 0 an an (I Y 0) rfl).2;have p0:w.cell? ⟨N+1,0,E⟩=G (I Y 0):=(aR hs 0 0 an an (I Y 0) rfl).1;have p1:w.cell? ⟨N+1,1,E⟩=G (I Y 4):=(aR hs 0 1 an an (I Y 4) rfl).1;clear i hs;exact fC

def Nk:
  Calls f 128 #[Ag #[I Y V,I Y F,U s len cap],.map (G N),Ag #[I Y 2,I Y c,I Y a,I Y b,I Y n,I Y g]] w λe w'=>e=Rt (I Y (bo V F len ⟨2,c,a,b,n,g⟩))/\bl w w':=by
 have i:n4 (R (M w)) w ((w.alloc (A #[I Y V,I Y F,U s len cap] 24)).alloc (A #[I Y 2,I Y c,I Y a,I Y b,I Y n,I Y g] 100)):=ai;have hl:(Instr.lookup 179 (.map (G N)) (I Y 2) W5).run f _=.ok (Tu #[Ag #[.string (bi 2),U (G ⟨N+2,0,E⟩) 2 2],O W5]) _:=dK (hs.below i (lR _)) 2 1 _ rfl;have hz:N+2 < R (M w):=(aR hs 1 0 an an (I Y 0) rfl).2;have p0:w.cell? ⟨N+2,0,E⟩=G (I Y 0):=(aR hs 1 0 an an (I Y 0) rfl).1;have p1:w.cell? ⟨N+2,1,E⟩=G (I Y 5):=(aR hs 1 1 an an (I Y 5) rfl).1;clear i hs;exact fC

def SA:
  Calls f 128 #[Ag #[I Y V,I Y F,U s len cap],.map (G N),Ag #[I Y 3,I Y c,I Y a,I Y b,I Y n,I Y g]] w λe w'=>e=Rt (I Y (bo V F len ⟨3,c,a,b,n,g⟩))/\bl w w':=by
 have i:n4 (R (M w)) w ((w.alloc (A #[I Y V,I Y F,U s len cap] 24)).alloc (A #[I Y 3,I Y c,I Y a,I Y b,I Y n,I Y g] 100)):=ai;have hl:(Instr.lookup 179 (.map (G N)) (I Y 3) W5).run f _=.ok (Tu #[Ag #[.string (bi 3),U (G ⟨N+3,0,E⟩) 1 1],O W5]) _:=dK (hs.below i (lR _)) 3 2 _ rfl;have hz:N+3 < R (M w):=(aR hs 2 0 an an (I Y 0) rfl).2;have p0:w.cell? ⟨N+3,0,E⟩=G (I Y 0):=(aR hs 2 0 an an (I Y 0) rfl).1;clear i hs;exact fC

def Sl:
  Calls f 128 #[Ag #[I Y V,I Y F,U s len cap],.map (G N),Ag #[I Y 4,I Y c,I Y a,I Y b,I Y n,I Y g]] w λe w'=>e=Rt (I Y (bo V F len ⟨4,c,a,b,n,g⟩))/\bl w w':=by
 have i:n4 (R (M w)) w ((w.alloc (A #[I Y V,I Y F,U s len cap] 24)).alloc (A #[I Y 4,I Y c,I Y a,I Y b,I Y n,I Y g] 100)):=ai;have hl:(Instr.lookup 179 (.map (G N)) (I Y 4) W5).run f _=.ok (Tu #[Ag #[.string (bi 4),U (G ⟨N+4,0,E⟩) 2 2],O W5]) _:=dK (hs.below i (lR _)) 4 3 _ rfl;have hz:N+4 < R (M w):=(aR hs 3 0 an an (I Y 0) rfl).2;have p0:w.cell? ⟨N+4,0,E⟩=G (I Y 0):=(aR hs 3 0 an an (I Y 0) rfl).1;have p1:w.cell? ⟨N+4,1,E⟩=G (I Y 1):=(aR hs 3 1 an an (I Y 1) rfl).1;clear i hs;exact fC
end
def LH(o:1<=V)(j:V<=8)(r:0<=F)(l:F<=3)(m:len<=60)(hs:a7i N a7k w):
  Calls f 128 #[Ag #[I Y V,I Y F,U s len cap],.map (G N),Ag #[I Y 19,I Y c,I Y a,I Y b,I Y n,I Y g]] w λe w'=>e=Rt (I Y (bo V F len ⟨19,c,a,b,n,g⟩))/\bl w w':=by
 have i:n4 (R (M w)) w ((w.alloc (A #[I Y V,I Y F,U s len cap] 24)).alloc (A #[I Y 19,I Y c,I Y a,I Y b,I Y n,I Y g] 100)):=ai;have t:(Instr.lookup 179 (.map (G N)) (I Y 19) W5).run f _=.ok (Tu #[Ag #[.string (bi 19),U E 0 0],O W5]) _:=dK (hs.below i (lR _)) 19 18 _ rfl;clear i hs;go_enter func128,ntmps128;go_wp2;refine wp_loop_rounds 1 ?_;rw[rounds_succ];go_wp2;all_goals go_ret
 all_goals refine⟨bE ?_,ai⟩
 all_goals clear t
 all_goals simp[bo,nTo,nA,nB,nN,nG,btw]
 all_goals omega

def LI(o:1<=V)(j:V<=8)(r:0<=F)(l:F<=3)(m:len<=60)(hs:a7i N a7k w)(y:btw k 1 19=d):
  Calls f 128 #[Ag #[I Y V,I Y F,U s len cap],.map (G N),Ag #[I Y k,I Y c,I Y a,I Y b,I Y n,I Y g]] w λe w'=>e=Rt (I Y (bo V F len ⟨k,c,a,b,n,g⟩))/\bl w w':=by
 have i:n4 (R (M w)) w ((w.alloc (A #[I Y V,I Y F,U s len cap] 24)).alloc (A #[I Y k,I Y c,I Y a,I Y b,I Y n,I Y g] 100)):=ai;have t:=a4z (hs.below i (lR _)) k y;have q:bo V F len ⟨k,c,a,b,n,g⟩=6:=by simp[bo,y]
 clear i hs;go_enter func128,ntmps128;go_wp2;go_ret;exact⟨bE q.symm,ai⟩

section
variable (hV:1<=V)(xZ:V<=8)(hF:0<=F)(zd:F<=3)(hL:len<=60)(hs:a7i N a7k w)
def LN:
  Calls f 128 #[Ag #[I Y V,I Y F,U s len cap],.map (G N),Ag #[I Y 11,I Y c,I Y a,I Y b,I Y n,I Y g]] w λe w'=>e=Rt (I Y (bo V F len ⟨11,c,a,b,n,g⟩))/\bl w w':=by
 have i:n4 (R (M w)) w ((w.alloc (A #[I Y V,I Y F,U s len cap] 24)).alloc (A #[I Y 11,I Y c,I Y a,I Y b,I Y n,I Y g] 100)):=ai;have hl:(Instr.lookup 179 (.map (G N)) (I Y 11) W5).run f _=.ok (Tu #[Ag #[.string (bi 11),U (G ⟨N+11,0,E⟩) 1 1],O W5]) _:=dK (hs.below i (lR _)) 11 10 _ rfl;have hz:N+11 < R (M w):=(aR hs 10 0 an an (I Y 0) rfl).2;have p0:w.cell? ⟨N+11,0,E⟩=G (I Y 0):=(aR hs 10 0 an an (I Y 0) rfl).1;clear i hs;exact fC
def Ny:
  Calls f 128 #[Ag #[I Y V,I Y F,U s len cap],.map (G N),Ag #[I Y 5,I Y c,I Y a,I Y b,I Y n,I Y g]] w λe w'=>e=Rt (I Y (bo V F len ⟨5,c,a,b,n,g⟩))/\bl w w':=by
 have i:n4 (R (M w)) w ((w.alloc (A #[I Y V,I Y F,U s len cap] 24)).alloc (A #[I Y 5,I Y c,I Y a,I Y b,I Y n,I Y g] 100)):=ai;have hl:(Instr.lookup 179 (.map (G N)) (I Y 5) W5).run f _=.ok (Tu #[Ag #[.string (bi 5),U (G ⟨N+5,0,E⟩) 3 3],O W5]) _:=dK (hs.below i (lR _)) 5 4 _ rfl;have hz:N+5 < R (M w):=(aR hs 4 0 an an (I Y 0) rfl).2;have p0:w.cell? ⟨N+5,0,E⟩=G (I Y 0):=(aR hs 4 0 an an (I Y 0) rfl).1;have p1:w.cell? ⟨N+5,1,E⟩=G (I Y 1):=(aR hs 4 1 an an (I Y 1) rfl).1;have p2:w.cell? ⟨N+5,2,E⟩=G (I Y 2):=(aR hs 4 2 an an (I Y 2) rfl).1;clear i hs;exact fC

def Ph:
  Calls f 128 #[Ag #[I Y V,I Y F,U s len cap],.map (G N),Ag #[I Y 6,I Y c,I Y a,I Y b,I Y n,I Y g]] w λe w'=>e=Rt (I Y (bo V F len ⟨6,c,a,b,n,g⟩))/\bl w w':=by
 have i:n4 (R (M w)) w ((w.alloc (A #[I Y V,I Y F,U s len cap] 24)).alloc (A #[I Y 6,I Y c,I Y a,I Y b,I Y n,I Y g] 100)):=ai;have hl:(Instr.lookup 179 (.map (G N)) (I Y 6) W5).run f _=.ok (Tu #[Ag #[.string (bi 6),U (G ⟨N+6,0,E⟩) 3 3],O W5]) _:=dK (hs.below i (lR _)) 6 5 _ rfl;have hz:N+6 < R (M w):=(aR hs 5 0 an an (I Y 0) rfl).2;have p0:w.cell? ⟨N+6,0,E⟩=G (I Y 0):=(aR hs 5 0 an an (I Y 0) rfl).1;have p1:w.cell? ⟨N+6,1,E⟩=G (I Y 1):=(aR hs 5 1 an an (I Y 1) rfl).1;have p2:w.cell? ⟨N+6,2,E⟩=G (I Y 2):=(aR hs 5 2 an an (I Y 2) rfl).1;clear i hs;exact fC

def SB:
  Calls f 128 #[Ag #[I Y V,I Y F,U s len cap],.map (G N),Ag #[I Y 7,I Y c,I Y a,I Y b,I Y n,I Y g]] w λe w'=>e=Rt (I Y (bo V F len ⟨7,c,a,b,n,g⟩))/\bl w w':=by
 have i:n4 (R (M w)) w ((w.alloc (A #[I Y V,I Y F,U s len cap] 24)).alloc (A #[I Y 7,I Y c,I Y a,I Y b,I Y n,I Y g] 100)):=ai;have hl:(Instr.lookup 179 (.map (G N)) (I Y 7) W5).run f _=.ok (Tu #[Ag #[.string (bi 7),U (G ⟨N+7,0,E⟩) 3 3],O W5]) _:=dK (hs.below i (lR _)) 7 6 _ rfl;have hz:N+7 < R (M w):=(aR hs 6 0 an an (I Y 0) rfl).2;have p0:w.cell? ⟨N+7,0,E⟩=G (I Y 0):=(aR hs 6 0 an an (I Y 0) rfl).1;have p1:w.cell? ⟨N+7,1,E⟩=G (I Y 1):=(aR hs 6 1 an an (I Y 1) rfl).1;have p2:w.cell? ⟨N+7,2,E⟩=G (I Y 2):=(aR hs 6 2 an an (I Y 2) rfl).1;clear i hs;exact fC

def LS:
  Calls f 128 #[Ag #[I Y V,I Y F,U s len cap],.map (G N),Ag #[I Y 16,I Y c,I Y a,I Y b,I Y n,I Y g]] w λe w'=>e=Rt (I Y (bo V F len ⟨16,c,a,b,n,g⟩))/\bl w w':=by
 have i:n4 (R (M w)) w ((w.alloc (A #[I Y V,I Y F,U s len cap] 24)).alloc (A #[I Y 16,I Y c,I Y a,I Y b,I Y n,I Y g] 100)):=ai;have hl:(Instr.lookup 179 (.map (G N)) (I Y 16) W5).run f _=.ok (Tu #[Ag #[.string (bi 16),U (G ⟨N+16,0,E⟩) 1 1],O W5]) _:=dK (hs.below i (lR _)) 16 15 _ rfl;have hz:N+16 < R (M w):=(aR hs 15 0 an an (I Y 3) rfl).2;have p0:w.cell? ⟨N+16,0,E⟩=G (I Y 3):=(aR hs 15 0 an an (I Y 3) rfl).1;clear i hs;exact fC

def Md:
  Calls f 128 #[Ag #[I Y V,I Y F,U s len cap],.map (G N),Ag #[I Y 17,I Y c,I Y a,I Y b,I Y n,I Y g]] w λe w'=>e=Rt (I Y (bo V F len ⟨17,c,a,b,n,g⟩))/\bl w w':=by
 have i:n4 (R (M w)) w ((w.alloc (A #[I Y V,I Y F,U s len cap] 24)).alloc (A #[I Y 17,I Y c,I Y a,I Y b,I Y n,I Y g] 100)):=ai;have hl:(Instr.lookup 179 (.map (G N)) (I Y 17) W5).run f _=.ok (Tu #[Ag #[.string (bi 17),U (G ⟨N+17,0,E⟩) 1 1],O W5]) _:=dK (hs.below i (lR _)) 17 16 _ rfl;have hz:N+17 < R (M w):=(aR hs 16 0 an an (I Y 1) rfl).2;have p0:w.cell? ⟨N+17,0,E⟩=G (I Y 1):=(aR hs 16 0 an an (I Y 1) rfl).1;clear i hs;exact fC
def Pt:
  Calls f 128 #[Ag #[I Y V,I Y F,U s len cap],.map (G N),Ag #[I Y 8,I Y c,I Y a,I Y b,I Y n,I Y g]] w λe w'=>e=Rt (I Y (bo V F len ⟨8,c,a,b,n,g⟩))/\bl w w':=by
 have i:n4 (R (M w)) w ((w.alloc (A #[I Y V,I Y F,U s len cap] 24)).alloc (A #[I Y 8,I Y c,I Y a,I Y b,I Y n,I Y g] 100)):=ai;have hl:(Instr.lookup 179 (.map (G N)) (I Y 8) W5).run f _=.ok (Tu #[Ag #[.string (bi 8),U (G ⟨N+8,0,E⟩) 3 3],O W5]) _:=dK (hs.below i (lR _)) 8 7 _ rfl;have hz:N+8 < R (M w):=(aR hs 7 0 an an (I Y 0) rfl).2;have p0:w.cell? ⟨N+8,0,E⟩=G (I Y 0):=(aR hs 7 0 an an (I Y 0) rfl).1;have p1:w.cell? ⟨N+8,1,E⟩=G (I Y 1):=(aR hs 7 1 an an (I Y 1) rfl).1;have p2:w.cell? ⟨N+8,2,E⟩=G (I Y 2):=(aR hs 7 2 an an (I Y 2) rfl).1;clear i hs;exact fC

def MQ:
  Calls f 128 #[Ag #[I Y V,I Y F,U s len cap],.map (G N),Ag #[I Y 9,I Y c,I Y a,I Y b,I Y n,I Y g]] w λe w'=>e=Rt (I Y (bo V F len ⟨9,c,a,b,n,g⟩))/\bl w w':=by
 have i:n4 (R (M w)) w ((w.alloc (A #[I Y V,I Y F,U s len cap] 24)).alloc (A #[I Y 9,I Y c,I Y a,I Y b,I Y n,I Y g] 100)):=ai;have hl:(Instr.lookup 179 (.map (G N)) (I Y 9) W5).run f _=.ok (Tu #[Ag #[.string (bi 9),U (G ⟨N+9,0,E⟩) 3 3],O W5]) _:=dK (hs.below i (lR _)) 9 8 _ rfl;have hz:N+9 < R (M w):=(aR hs 8 0 an an (I Y 0) rfl).2;have p0:w.cell? ⟨N+9,0,E⟩=G (I Y 0):=(aR hs 8 0 an an (I Y 0) rfl).1;have p1:w.cell? ⟨N+9,1,E⟩=G (I Y 1):=(aR hs 8 1 an an (I Y 1) rfl).1;have p2:w.cell? ⟨N+9,2,E⟩=G (I Y 2):=(aR hs 8 2 an an (I Y 2) rfl).1;clear i hs;exact fC

def Ma:
  Calls f 128 #[Ag #[I Y V,I Y F,U s len cap],.map (G N),Ag #[I Y 10,I Y c,I Y a,I Y b,I Y n,I Y g]] w λe w'=>e=Rt (I Y (bo V F len ⟨10,c,a,b,n,g⟩))/\bl w w':=by
 have i:n4 (R (M w)) w ((w.alloc (A #[I Y V,I Y F,U s len cap] 24)).alloc (A #[I Y 10,I Y c,I Y a,I Y b,I Y n,I Y g] 100)):=ai;have hl:(Instr.lookup 179 (.map (G N)) (I Y 10) W5).run f _=.ok (Tu #[Ag #[.string (bi 10),U (G ⟨N+10,0,E⟩) 2 2],O W5]) _:=dK (hs.below i (lR _)) 10 9 _ rfl;have hz:N+10 < R (M w):=(aR hs 9 0 an an (I Y 0) rfl).2;have p0:w.cell? ⟨N+10,0,E⟩=G (I Y 0):=(aR hs 9 0 an an (I Y 0) rfl).1;have p1:w.cell? ⟨N+10,1,E⟩=G (I Y 1):=(aR hs 9 1 an an (I Y 1) rfl).1;clear i hs;exact fC

def Mi:
  Calls f 128 #[Ag #[I Y V,I Y F,U s len cap],.map (G N),Ag #[I Y 15,I Y c,I Y a,I Y b,I Y n,I Y g]] w λe w'=>e=Rt (I Y (bo V F len ⟨15,c,a,b,n,g⟩))/\bl w w':=by
 have i:n4 (R (M w)) w ((w.alloc (A #[I Y V,I Y F,U s len cap] 24)).alloc (A #[I Y 15,I Y c,I Y a,I Y b,I Y n,I Y g] 100)):=ai;have hl:(Instr.lookup 179 (.map (G N)) (I Y 15) W5).run f _=.ok (Tu #[Ag #[.string (bi 15),U (G ⟨N+15,0,E⟩) 2 2],O W5]) _:=dK (hs.below i (lR _)) 15 14 _ rfl;have hz:N+15 < R (M w):=(aR hs 14 0 an an (I Y 1) rfl).2;have p0:w.cell? ⟨N+15,0,E⟩=G (I Y 1):=(aR hs 14 0 an an (I Y 1) rfl).1;have p1:w.cell? ⟨N+15,1,E⟩=G (I Y 3):=(aR hs 14 1 an an (I Y 3) rfl).1;clear i hs;exact fC

def Mp:
  Calls f 128 #[Ag #[I Y V,I Y F,U s len cap],.map (G N),Ag #[I Y 18,I Y c,I Y a,I Y b,I Y n,I Y g]] w λe w'=>e=Rt (I Y (bo V F len ⟨18,c,a,b,n,g⟩))/\bl w w':=by
 have i:n4 (R (M w)) w ((w.alloc (A #[I Y V,I Y F,U s len cap] 24)).alloc (A #[I Y 18,I Y c,I Y a,I Y b,I Y n,I Y g] 100)):=ai;have hl:(Instr.lookup 179 (.map (G N)) (I Y 18) W5).run f _=.ok (Tu #[Ag #[.string (bi 18),U (G ⟨N+18,0,E⟩) 1 1],O W5]) _:=dK (hs.below i (lR _)) 18 17 _ rfl;have hz:N+18 < R (M w):=(aR hs 17 0 an an (I Y 1) rfl).2;have p0:w.cell? ⟨N+18,0,E⟩=G (I Y 1):=(aR hs 17 0 an an (I Y 1) rfl).1;clear i hs;exact fC
def LX:
  Calls f 128 #[Ag #[I Y V,I Y F,U s len cap],.map (G N),Ag #[I Y 12,I Y c,I Y a,I Y b,I Y n,I Y g]] w λe w'=>e=Rt (I Y (bo V F len ⟨12,c,a,b,n,g⟩))/\bl w w':=by
 have i:n4 (R (M w)) w ((w.alloc (A #[I Y V,I Y F,U s len cap] 24)).alloc (A #[I Y 12,I Y c,I Y a,I Y b,I Y n,I Y g] 100)):=ai;have hl:(Instr.lookup 179 (.map (G N)) (I Y 12) W5).run f _=.ok (Tu #[Ag #[.string (bi 12),U (G ⟨N+12,0,E⟩) 3 3],O W5]) _:=dK (hs.below i (lR _)) 12 11 _ rfl;have hz:N+12 < R (M w):=(aR hs 11 0 an an (I Y 0) rfl).2;have p0:w.cell? ⟨N+12,0,E⟩=G (I Y 0):=(aR hs 11 0 an an (I Y 0) rfl).1;have p1:w.cell? ⟨N+12,1,E⟩=G (I Y 1):=(aR hs 11 1 an an (I Y 1) rfl).1;have p2:w.cell? ⟨N+12,2,E⟩=G (I Y 7):=(aR hs 11 2 an an (I Y 7) rfl).1;clear i hs;exact fC

def Lz:
  Calls f 128 #[Ag #[I Y V,I Y F,U s len cap],.map (G N),Ag #[I Y 13,I Y c,I Y a,I Y b,I Y n,I Y g]] w λe w'=>e=Rt (I Y (bo V F len ⟨13,c,a,b,n,g⟩))/\bl w w':=by
 have i:n4 (R (M w)) w ((w.alloc (A #[I Y V,I Y F,U s len cap] 24)).alloc (A #[I Y 13,I Y c,I Y a,I Y b,I Y n,I Y g] 100)):=ai;have hl:(Instr.lookup 179 (.map (G N)) (I Y 13) W5).run f _=.ok (Tu #[Ag #[.string (bi 13),U (G ⟨N+13,0,E⟩) 3 3],O W5]) _:=dK (hs.below i (lR _)) 13 12 _ rfl;have hz:N+13 < R (M w):=(aR hs 12 0 an an (I Y 1) rfl).2;have p0:w.cell? ⟨N+13,0,E⟩=G (I Y 1):=(aR hs 12 0 an an (I Y 1) rfl).1;have p1:w.cell? ⟨N+13,1,E⟩=G (I Y 7):=(aR hs 12 1 an an (I Y 7) rfl).1;have p2:w.cell? ⟨N+13,2,E⟩=G (I Y 2):=(aR hs 12 2 an an (I Y 2) rfl).1;clear i hs;exact fC

def LQ:
  Calls f 128 #[Ag #[I Y V,I Y F,U s len cap],.map (G N),Ag #[I Y 14,I Y c,I Y a,I Y b,I Y n,I Y g]] w λe w'=>e=Rt (I Y (bo V F len ⟨14,c,a,b,n,g⟩))/\bl w w':=by
 have i:n4 (R (M w)) w ((w.alloc (A #[I Y V,I Y F,U s len cap] 24)).alloc (A #[I Y 14,I Y c,I Y a,I Y b,I Y n,I Y g] 100)):=ai;have hl:(Instr.lookup 179 (.map (G N)) (I Y 14) W5).run f _=.ok (Tu #[Ag #[.string (bi 14),U (G ⟨N+14,0,E⟩) 2 2],O W5]) _:=dK (hs.below i (lR _)) 14 13 _ rfl;have hz:N+14 < R (M w):=(aR hs 13 0 an an (I Y 0) rfl).2;have p0:w.cell? ⟨N+14,0,E⟩=G (I Y 0):=(aR hs 13 0 an an (I Y 0) rfl).1;have p1:w.cell? ⟨N+14,1,E⟩=G (I Y 6):=(aR hs 13 1 an an (I Y 6) rfl).1;clear i hs;exact fC
end
def yo {x:Int}(o: -9223372036854775808<=x)(H:x < 9223372036854775808):wrap64 x=x:=by unfold wrap64;omega

section
variable {a b:Int}(c:bA a)(r:bA b)
def a1f: -4611686018427387904<=a * b/\a * b<=4611686018427387904:=by
 have o:a.natAbs<=2147483648:=by unfold bA at c;omega
 have H:b.natAbs<=2147483648:=by unfold bA at r;omega
 have g:(a * b).natAbs<=4611686018427387904:=by rw[Int.natAbs_mul];exact Nat.mul_le_mul o H
 omega

def kn:wrap64 (a+b)=a+b:=by
 unfold bA at c r;exact yo aa aa
def kE:wrap64 (a - b)=a - b:=by
 unfold bA at c r;exact yo aa aa
def kr:wrap64 (a * b)=a * b:=by
 have:=a1f c r;exact yo aa aa
end
section
variable (s t:Sp)(w:C)(hs:s.Ok)(b:t.Ok)
def a3I:
  Calls f 228 #[sv s,sv t,.func (.func 229) #[] #[]] w λe w'=>e=Rt (sv (cT 5 s t))/\bl w w':=by
 by_cases h:(s.n||t.n)=W5
 .have:=sq 229 s t w h
  unfold cT;rw[if_pos h];exact this
 .have g:cT 5 s t=i7 (s.lo+t.lo) (s.lo+t.hi) (s.hi+t.lo) (s.hi+t.hi):=by unfold cT;rw[if_neg h];rfl
  rw[g];obtain⟨n,lo,hi⟩:=s;obtain⟨l,c,a⟩:=t;cases n with
  |true=>exact absurd rfl h
  |false=>
   cases l with
   |true=>exact absurd rfl h
   |false=>exact V5 lo hi c a w (kn hs.1 b.1) (kn hs.1 b.2.1) (kn hs.2.1 b.1) (kn hs.2.1 b.2.1)

def a3x:
  Calls f 228 #[sv s,sv t,.func (.func 230) #[] #[]] w λe w'=>e=Rt (sv (cT 6 s t))/\bl w w':=by
 by_cases h:(s.n||t.n)=W5
 .have:=sq 230 s t w h
  unfold cT;rw[if_pos h];exact this
 .have g:cT 6 s t=i7 (s.lo - t.lo) (s.lo - t.hi) (s.hi - t.lo) (s.hi - t.hi):=by unfold cT;rw[if_neg h];rfl
  rw[g];obtain⟨n,lo,hi⟩:=s;obtain⟨l,c,a⟩:=t;cases n with
  |true=>exact absurd rfl h
  |false=>
   cases l with
   |true=>exact absurd rfl h
   |false=>exact Yg lo hi c a w (kE hs.1 b.1) (kE hs.1 b.2.1) (kE hs.2.1 b.1) (kE hs.2.1 b.2.1)

def a4V:
  Calls f 228 #[sv s,sv t,.func (.func 231) #[] #[]] w λe w'=>e=Rt (sv (cT 7 s t))/\bl w w':=by
 by_cases h:(s.n||t.n)=W5
 .have:=sq 231 s t w h
  unfold cT;rw[if_pos h];exact this
 .have g:cT 7 s t=i7 (s.lo * t.lo) (s.lo * t.hi) (s.hi * t.lo) (s.hi * t.hi):=by unfold cT;rw[if_neg h];rfl
  rw[g];obtain⟨n,lo,hi⟩:=s;obtain⟨l,c,a⟩:=t;cases n with
  |true=>exact absurd rfl h
  |false=>
   cases l with
   |true=>exact absurd rfl h
   |false=>exact Wx lo hi c a w (kr hs.1 b.1) (kr hs.1 b.2.1) (kr hs.2.1 b.1) (kr hs.2.1 b.2.1)
end
def a5H(s t:Sp)(w:C)(h:bO s t≠0):
  Calls f 202 #[I Y k,sv s,sv t] w λe w'=>e=Rt (Tu #[sv dP,I Y (bO s t)])/\bl w w':=by
 obtain⟨n,lo,hi⟩:=s;obtain⟨n',xt,xu⟩:=t;go_enter func202,ntmps202;go_wp2_with fail;go_call fW ⟨n,lo,hi⟩ ⟨n',xt,xu⟩ _ as e w1 ⟨rfl,vZ⟩;obtain⟨⟨m,_⟩,⟨x,l,i⟩,⟨r0,r1,r2⟩,⟨q,y,o⟩,_⟩:=gO;have H1:=gI;simp only[dP] at r0 r1 r2;clear vZ;go_wp2;refine bodyPost_ret (v:=Tu #[sv dP,I Y (bO ⟨n,lo,hi⟩ ⟨n',xt,xu⟩)]) Vq rfl ⟨rfl,?_⟩;exact DL

section
variable (s t:Sp)(w:C)(h:bO s t=0)
def a4e(b:(k==5)=d)(c:(k==6)=d)(a:(k==7)=d):
  Calls f 202 #[I Y k,sv s,sv t] w λe w'=>e=Rt (Tu #[sv dP,I Y 6])/\bl w w':=by
 obtain⟨n,lo,hi⟩:=s;obtain⟨n',xt,xu⟩:=t;go_enter func202,ntmps202;go_wp2_with fail;go_call fW ⟨n,lo,hi⟩ ⟨n',xt,xu⟩ _ as e w1 ⟨rfl,vZ⟩;obtain⟨⟨m,_⟩,⟨x,l,i⟩,⟨r0,r1,r2⟩,⟨q,y,o⟩,_⟩:=gO;have H1:=gI;simp only[dP] at r0 r1 r2;clear vZ;rw[h];go_wp2;refine bodyPost_ret (v:=Tu #[sv dP,I Y 6]) Vq rfl ⟨rfl,?_⟩;exact DL

def uB(h:p:=by
 clear hs ht;obtain⟨n,lo,hi⟩:=s;obtain⟨n',xt,xu⟩:=t;obtain⟨rn,rlo,rhi⟩:=r;go_enter func202,ntmps202;go_wp2_with fail;refine(fW ⟨n,lo,hi⟩ ⟨n',xt,xu⟩ _).mono ?_;rintro e w1 ⟨rfl,vZ⟩;obtain⟨⟨c0,c1,c2⟩,⟨d0,d1,d2⟩,⟨r0,r1,r2⟩,⟨f0,f1,f2⟩,z0,z1,z2⟩:=gO;have H1:=gI;simp only[dP] at r0 r1 r2;clear vZ;rw[h];go_wp2_with fail;refine(hR _).mono ?_;rintro e w2 ⟨rfl,xj⟩;have g0:=r0;have g1:=r1;have g2:=r2;have k0:=f0;have k1:=f1;have k2:=f2
 rw[<-xj.cell z2] at g0 g1 g2;rw[<-xj.frozen z2] at k0 k1 k2;have H2:=wJ;clear r0 r1 r2 f0 f1 f2 xj c0 c1 c2 d0 d1 d2 hR;go_wp2;refine bodyPost_ret (v:=Tu #[sv ⟨rn,rlo,rhi⟩,I Y 0]) (by simp[results,results202,go_sem,g0,g1,g2]) rfl ⟨rfl,?_⟩;exact((H2.setCell au _).setCell au _).setCell au _):=h
def a5w:
  Calls f 202 #[I Y 5,sv s,sv t] w λe w'=>e=Rt (Tu #[sv (cT 5 s t),I Y 0])/\bl w w':=by
 obtain⟨hs,ht⟩:=ckSps_ok.1 h;have hR:=λw=>a3I s t w hs ht;generalize cT 5 s t=r at hR |-;exact uB

def a5g:
  Calls f 202 #[I Y 6,sv s,sv t] w λe w'=>e=Rt (Tu #[sv (cT 6 s t),I Y 0])/\bl w w':=by
 obtain⟨hs,ht⟩:=ckSps_ok.1 h;have hR:=λw=>a3x s t w hs ht;generalize cT 6 s t=r at hR |-;exact uB

def a5o:
  Calls f 202 #[I Y 7,sv s,sv t] w λe w'=>e=Rt (Tu #[sv (cT 7 s t),I Y 0])/\bl w w':=by
 obtain⟨hs,ht⟩:=ckSps_ok.1 h;have hR:=λw=>a4V s t w hs ht;generalize cT 7 s t=r at hR |-;exact uB
end
def ke (k:Int)(s t:Sp):Int:=if bO s t=0 then(if k=5\/k=6\/k=7 then 0 else 6) else bO s t

def N8(s t:Sp)(w:C):
  Calls f 202 #[I Y k,sv s,sv t] w λe w'=>e=Rt (Tu #[sv (gR (ke k s t) (cT k s t)),I Y (ke k s t)])/\bl w w':=by
 by_cases h:bO s t=0
 .by_cases y:k=5\/k=6\/k=7
  .have g:ke k s t=0:=by unfold ke;rw[if_pos h,if_pos y]
   rw[g];rcases y with rfl|rfl|rfl
   .exact a5w s t w h
   .exact a5g s t w h
   .exact a5o s t w h
  .have g:ke k s t=6:=by unfold ke;rw[if_pos h,if_neg y]
   rw[g];exact a4e k s t w h au au au
 .have g:ke k s t=bO s t:=by unfold ke;rw[if_neg h]
  rw[g];unfold gR;rw[if_neg h];exact a5H k s t w h
def a1P(s t:Sp)(w:C)(h:(s.n||t.n)=W5):
  Calls f 172 #[I Y k,sv s,sv t] w λe w'=>e=Rt (sv ⟨W5,0,0⟩)/\bl w w':=by
 obtain⟨n,lo,hi⟩:=s;obtain⟨l,c,a⟩:=t;cases n with
 |true=>
  go_enter func172,ntmps172;go_wp2
  go_returns
  exact cP
 |false=>
  cases l with
  |true=>
   go_enter func172,ntmps172;go_wp2
   go_returns
   exact cP
  |false=>exact absurd h ae

def mA {w:C}{B:Nat}{e:TypeId}{z:Nat}{v:mh}{n:Nat}{xs:List mh}(h:w.ownsRow B e z v n xs){k:Nat}(y:v.ownBlock=G k):B<=k:=by
 rcases h.2 with⟨rfl,_⟩|⟨g,a,b,rfl,r,W,_⟩
 .cases y
 .cases y
  exact r

def Tryz.info_intS:(Tryz.prog.info? 3).map (λi=>(i.zero,i.size,i.bytes))=G (G (I Y 0),1,8):=ac

def To{t:TypeId}{z:Option mh}{a b:Nat}(h:(P.info? t).map (λi=>(i.zero,i.size,i.bytes))=G (z,a,b)):∃i,P.info? t=G i/\i.zero=z/\i.size=a/\i.bytes=b:=by
 cases hi:P.info? t with
 |none=>rw[hi] at h;cases h
 |some i=>
  rw[hi] at h;simp only[Option.map_some,Option.some.injEq,Prod.mk.injEq] at h;exact⟨i,rfl,h.1,h.2.1,h.2.2⟩

def a2l(c e:Int):fF a b c e<=fK a b c e:=by unfold fF fK;omega
def a3Q {a b c e:Int}(h:cY ⟨d,fF a b c e,fK a b c e⟩=0):i7 a b c e=⟨d,fF a b c e,fK a b c e⟩:=by
 have:=ckSp_ok.1 h;exact Va this.1 this.2.1
def Uy {a b c e:Int}(h:cY ⟨d,fF a b c e,fK a b c e⟩≠0):i7 a b c e=⟨d,-2147483648,2147483647⟩:=by
 unfold i7;refine if_neg λq=>h (ckSp_ok.2 ⟨q.1,q.2,(λi=>by cases i),a2l a b c e⟩)

def vB(v:mh)(t:TypeId):∀j u,[v][j]? =G u->(w.alloc (A #[v] t)).drew.cell? ((⟨R (M w),0,E⟩:Addr).add j)=G u:=by
 intro j u b;have a:=Sk;rw[a];have:(w.alloc (A #[v] t)).drew.cell? ⟨R (M w),j,E⟩=#[v][j]? :=aE;rw[this];simpa using b
def Hq(h:p:=by
 go_wp2;go_loopw [7,11] (λl k wr=>∃J:Nat,J<=2/\k=I Y J/\wr.ownsRow (R (M W)) 3 1 l (0+J) (([a,b,c,d].take (0+J)).map (.int .i64))/\bl W wr) (λ_ k _=>2 - (intOf k).toNat)
 case atStart=>exact⟨0,aa,rfl,xK,xA⟩
 case round=>
  obtain⟨J,hJ,rfl,qD,zK⟩:=hrel;clear xK xA;rcases (by omega:J=0\/J=1\/J=2) with rfl|rfl|rfl
  .go_wp2
   go_region_held_law (λw'=>w'.cell? ⟨ga,0,E⟩=G (I Y lo)/\w'.cell? ⟨gb,0,E⟩=G (I Y xt))
    (first|exact K00 _ zK.drew|exact K00 _ (zK.alloc zK.size _).drew|exact K00 _ qE)
    (first
     |(refine step_append_lies _ rfl _ _ 34 rfl (R (M W)) 3 ti (I Y 0) 1 8 underlying34 hi0 xS qo qt rfl an _ _ _ rfl ((qD.alloc _).drew) ⟨R (M wr),0,E⟩ 1 1 [I Y a] rfl rfl (vB _ _ _) (λx hx=>sQ) an cL aa me _ rfl ?_;intro g1 Qz wn jY jZ QC QD;have qE:bl W wn:=(zK.alloc zK.size _).drew.grown jZ me (λj hj=>mA qD hj)))
   go_wp2;go_roundw
   case rel=>exact⟨1,aa,rfl,jY,qE⟩
   case measure=>simp[intOf]
  .go_wp2
   go_region_held_law (λw'=>w'.cell? ⟨ga,0,E⟩=G (I Y lo)/\w'.cell? ⟨gb,1,E⟩=G (I Y xu))
    (first|exact K01 _ zK.drew|exact K01 _ (zK.alloc zK.size _).drew|exact K01 _ qE)
    (first
     |(refine step_append_lies _ rfl _ _ 34 rfl (R (M W)) 3 ti (I Y 0) 1 8 underlying34 hi0 xS qo qt rfl an _ _ _ rfl ((qD.alloc _).drew) ⟨R (M wr),0,E⟩ 1 1 [I Y b] rfl rfl (vB _ _ _) (λx hx=>sQ) an cL aa me _ rfl ?_;intro g1 Qz wn jY jZ QC QD;have qE:bl W wn:=(zK.alloc zK.size _).drew.grown jZ me (λj hj=>mA qD hj)))
   go_wp2;go_roundw
   case rel=>exact⟨2,aa,rfl,jY,qE⟩
   case measure=>simp[intOf]
  .go_wp2
   go_roundw
   case rel=>exact⟨1,aa,rfl,qD,zK⟩
   case measure=>simp[intOf]):=h
def Gw(h:p:=by
 go_wp2;go_loopw [7,11] (λl k wr=>∃J:Nat,J<=2/\k=I Y J/\wr.ownsRow (R (M W)) 3 1 l (2+J) (([a,b,c,d].take (2+J)).map (.int .i64))/\bl W wr) (λ_ k _=>2 - (intOf k).toNat)
 case atStart=>exact⟨0,aa,rfl,xK,xA⟩
 case round=>
  obtain⟨J,hJ,rfl,qD,zK⟩:=hrel;clear xK xA;rcases (by omega:J=0\/J=1\/J=2) with rfl|rfl|rfl
  .go_wp2
   go_region_held_law (λw'=>w'.cell? ⟨ga,1,E⟩=G (I Y hi)/\w'.cell? ⟨gb,0,E⟩=G (I Y xt))
    (first|exact K10 _ zK.drew|exact K10 _ (zK.alloc zK.size _).drew|exact K10 _ qE)
    (first
     |(refine step_append_lies _ rfl _ _ 34 rfl (R (M W)) 3 ti (I Y 0) 1 8 underlying34 hi0 xS qo qt rfl an _ _ _ rfl ((qD.alloc _).drew) ⟨R (M wr),0,E⟩ 1 1 [I Y c] rfl rfl (vB _ _ _) (λx hx=>sQ) an cL aa me _ rfl ?_;intro g1 Qz wn jY jZ QC QD;have qE:bl W wn:=(zK.alloc zK.size _).drew.grown jZ me (λj hj=>mA qD hj)))
   go_wp2;go_roundw
   case rel=>exact⟨1,aa,rfl,jY,qE⟩
   case measure=>simp[intOf]
  .go_wp2
   go_region_held_law (λw'=>w'.cell? ⟨ga,1,E⟩=G (I Y hi)/\w'.cell? ⟨gb,1,E⟩=G (I Y xu))
    (first|exact K11 _ zK.drew|exact K11 _ (zK.alloc zK.size _).drew|exact K11 _ qE)
    (first
     |(refine step_append_lies _ rfl _ _ 34 rfl (R (M W)) 3 ti (I Y 0) 1 8 underlying34 hi0 xS qo qt rfl an _ _ _ rfl ((qD.alloc _).drew) ⟨R (M wr),0,E⟩ 1 1 [I Y d] rfl rfl (vB _ _ _) (λx hx=>sQ) an cL aa me _ rfl ?_;intro g1 Qz wn jY jZ QC QD;have qE:bl W wn:=(zK.alloc zK.size _).drew.grown jZ me (λj hj=>mA qD hj)))
   go_wp2;go_roundw
   case rel=>exact⟨2,aa,rfl,jY,qE⟩
   case measure=>simp[intOf]
  .go_wp2
   go_roundw
   case rel=>exact⟨2,aa,rfl,qD,zK⟩
   case measure=>simp[intOf]):=h
def Ga(h:p:=by
 have hH:=a3Q hc;generalize fF a b c d=mn at *;generalize fK a b c d=mx at *;go_wp2;refine bodyPost_ret (v:=sv ⟨false,mn,mx⟩) Ko rfl ⟨by rw[hH],?_⟩;exact((H5.setCell au _).setCell au _).setCell au _):=h
def Ip(h:p:=by
 intro wx hb;rw[hb.cell ae,hb.cell ae,hb.cell ae,hb.frozen ae,hb.frozen ae,hb.frozen ae];simp[go_sem]):=h
def yq(h:p:=by
 obtain⟨ti,hi0,xS,qo,qt⟩:=To Tryz.info_intS;go_enter func172,ntmps172;go_wp2;go_region_held3 (λw'=>w'.cell? ⟨R (M w),1,E⟩=G (.int .i64 lo)/\w'.cell? ⟨R (M w),2,E⟩=G (.int .i64 hi)/\w'.cell? ⟨R (M w)+1,1,E⟩=G (.int .i64 xt)/\w'.cell? ⟨R (M w)+1,2,E⟩=G (.int .i64 xu)) (simp[go_sem])
  (fail)
 .have HB:Below (R (M w)) w ((((((w.alloc (A #[O false,.int .i64 lo,.int .i64 hi] 89)).alloc (A #[O false,.int .i64 xt,.int .i64 xu] 89)).alloc (A #[O false,.int .i64 0,.int .i64 0] 89)).alloc (A #[.int .i64 lo,.int .i64 hi] 3)).alloc (A #[.int .i64 xt,.int .i64 xu] 3)).drew):=by go_grown
  have f0:((((((w.alloc (A #[O false,.int .i64 lo,.int .i64 hi] 89)).alloc (A #[O false,.int .i64 xt,.int .i64 xu] 89)).alloc (A #[O false,.int .i64 0,.int .i64 0] 89)).alloc (A #[.int .i64 lo,.int .i64 hi] 3)).alloc (A #[.int .i64 xt,.int .i64 xu] 3)).drew).cell? ⟨R (M w)+1+1+1,0,E⟩=G (.int .i64 lo):=aE;have f1:((((((w.alloc (A #[O false,.int .i64 lo,.int .i64 hi] 89)).alloc (A #[O false,.int .i64 xt,.int .i64 xu] 89)).alloc (A #[O false,.int .i64 0,.int .i64 0] 89)).alloc (A #[.int .i64 lo,.int .i64 hi] 3)).alloc (A #[.int .i64 xt,.int .i64 xu] 3)).drew).cell? ⟨R (M w)+1+1+1,1,E⟩=G (.int .i64 hi):=aE;have f2:((((((w.alloc (A #[O false,.int .i64 lo,.int .i64 hi] 89)).alloc (A #[O false,.int .i64 xt,.int .i64 xu] 89)).alloc (A #[O false,.int .i64 0,.int .i64 0] 89)).alloc (A #[.int .i64 lo,.int .i64 hi] 3)).alloc (A #[.int .i64 xt,.int .i64 xu] 3)).drew).cell? ⟨R (M w)+1+1+1+1,0,E⟩=G (.int .i64 xt):=aE;have f3:((((((w.alloc (A #[O false,.int .i64 lo,.int .i64 hi] 89)).alloc (A #[O false,.int .i64 xt,.int .i64 xu] 89)).alloc (A #[O false,.int .i64 0,.int .i64 0] 89)).alloc (A #[.int .i64 lo,.int .i64 hi] 3)).alloc (A #[.int .i64 xt,.int .i64 xu] 3)).drew).cell? ⟨R (M w)+1+1+1+1,1,E⟩=G (.int .i64 xu):=aE;have zz:R (M ((((((w.alloc (A #[O false,.int .i64 lo,.int .i64 hi] 89)).alloc (A #[O false,.int .i64 xt,.int .i64 xu] 89)).alloc (A #[O false,.int .i64 0,.int .i64 0] 89)).alloc (A #[.int .i64 lo,.int .i64 hi] 3)).alloc (A #[.int .i64 xt,.int .i64 xu] 3)).drew))=R (M w)+5:=ae;have za:R (M w)+1+1+1 < R (M ((((((w.alloc (A #[O false,.int .i64 lo,.int .i64 hi] 89)).alloc (A #[O false,.int .i64 xt,.int .i64 xu] 89)).alloc (A #[O false,.int .i64 0,.int .i64 0] 89)).alloc (A #[.int .i64 lo,.int .i64 hi] 3)).alloc (A #[.int .i64 xt,.int .i64 xu] 3)).drew)):=ae;have zb:R (M w)+1+1+1+1 < R (M ((((((w.alloc (A #[O false,.int .i64 lo,.int .i64 hi] 89)).alloc (A #[O false,.int .i64 xt,.int .i64 xu] 89)).alloc (A #[O false,.int .i64 0,.int .i64 0] 89)).alloc (A #[.int .i64 lo,.int .i64 hi] 3)).alloc (A #[.int .i64 xt,.int .i64 xu] 3)).drew)):=ae;have KR:∀wx,Below (R (M ((((((w.alloc (A #[O false,.int .i64 lo,.int .i64 hi] 89)).alloc (A #[O false,.int .i64 xt,.int .i64 xu] 89)).alloc (A #[O false,.int .i64 0,.int .i64 0] 89)).alloc (A #[.int .i64 lo,.int .i64 hi] 3)).alloc (A #[.int .i64 xt,.int .i64 xu] 3)).drew))) ((((((w.alloc (A #[O false,.int .i64 lo,.int .i64 hi] 89)).alloc (A #[O false,.int .i64 xt,.int .i64 xu] 89)).alloc (A #[O false,.int .i64 0,.int .i64 0] 89)).alloc (A #[.int .i64 lo,.int .i64 hi] 3)).alloc (A #[.int .i64 xt,.int .i64 xu] 3)).drew) wx->wx.cell? ⟨R (M w)+1+1,0,E⟩=G (O false)/\wx.cell? ⟨R (M w)+1+1,1,E⟩=G (.int .i64 0)/\wx.cell? ⟨R (M w)+1+1,2,E⟩=G (.int .i64 0)/\wx.frozen? ⟨R (M w)+1+1,0,E⟩=false/\wx.frozen? ⟨R (M w)+1+1,1,E⟩=false/\wx.frozen? ⟨R (M w)+1+1,2,E⟩=false:=by
   exact Ip
  generalize ((((((w.alloc (A #[O false,.int .i64 lo,.int .i64 hi] 89)).alloc (A #[O false,.int .i64 xt,.int .i64 xu] 89)).alloc (A #[O false,.int .i64 0,.int .i64 0] 89)).alloc (A #[.int .i64 lo,.int .i64 hi] 3)).alloc (A #[.int .i64 xt,.int .i64 xu] 3)).drew)=W at HB f0 f1 f2 f3 zz za zb KR |-;generalize (R (M w))+1+1+1+1=gb at f2 f3 zb |-;generalize (R (M w))+1+1+1=ga at f0 f1 za |-;have K:∀wx,bl W wx->wx.cell? ⟨ga,0,E⟩=G (.int .i64 lo)/\wx.cell? ⟨ga,1,E⟩=G (.int .i64 hi)/\wx.cell? ⟨gb,0,E⟩=G (.int .i64 xt)/\wx.cell? ⟨gb,1,E⟩=G (.int .i64 xu):=by
   intro wx hb;rw[hb.cell za,hb.cell za,hb.cell zb,hb.cell zb];exact⟨f0,f1,f2,f3⟩
  have K00:=λwx hb=>(show _/\_ from⟨(K wx hb).1,(K wx hb).2.2.1⟩);have K01:=λwx hb=>(show _/\_ from⟨(K wx hb).1,(K wx hb).2.2.2⟩);have K10:=λwx hb=>(show _/\_ from⟨(K wx hb).2.1,(K wx hb).2.2.1⟩);have K11:=λwx hb=>(show _/\_ from⟨(K wx hb).2.1,(K wx hb).2.2.2⟩);clear K f0 f1 f2 f3;go_wp2;go_loopw [7,10] (λl i wr=>∃I:Nat,I<=2/\i=.int .i64 I/\wr.ownsRow (R (M W)) 3 1 l (2 * I) (([a,b,c,d].take (2 * I)).map (.int .i64))/\bl W wr) (λ_ i _=>2 - (intOf i).toNat)
  case atStart=>exact⟨0,aa,rfl,⟨ae,.inl ⟨rfl,ae⟩⟩,bR _ _⟩
  case round=>
   obtain⟨I,hI,rfl,xK,xA⟩:=hrel;rcases (by omega:I=0\/I=1\/I=2) with rfl|rfl|rfl
   .rw[show ((0:Nat):Int)=0 from rfl]
    exact Hq
   .rw[show ((1:Nat):Int)=1 from rfl]
    exact Gw
   .clear K00 K01 K10 K11
    rw[show 2 * 2=4 from rfl] at xK;obtain⟨g,cap,rfl,hg1,zh⟩:=xK.form aa;have q0:=xK.cellAt 0 aa;have q1:=xK.cellAt 1 aa;have q2:=xK.cellAt 2 aa;have q3:=xK.cellAt 3 aa;simp only[List.take,List.map,List.getElem?_cons_zero,List.getElem?_cons_succ] at q0 q1 q2 q3;clear xK;clear h1 h2 h3 h4;go_wp2_with (first
     |(go_at_call 207;refine(a1d _ _ a b c d _ q0 q1 q2 q3).mono ?_;rintro e w' ⟨rfl,rfl⟩)
     |(go_at_call 208;refine(a3j _ _ a b c d _ q0 q1 q2 q3).mono ?_;rintro e w' ⟨rfl,rfl⟩)
     |(go_at_call 209;fail))
    refine(yL ⟨false,fF a b c d,fK a b c d⟩ _).mono ?_;rintro e w5 ⟨rfl,xw⟩;have qi:=MV;have H5:bl w w5:=HB.trans (qi.mono aa);obtain⟨r0,r1,r2,k0,k1,k2⟩:=KR w5 qi;obtain⟨o0,o1,o2⟩:=DX xw ae;have y1:R (M w') < R (M w5):=by have:=xw.size;simp at this;omega
    have y2:R (M w)+1+1 < R (M w'):=by have:=xA.size;omega
    clear KR xw qi xA HB q0 q1 q2 q3;by_cases hc:cY ⟨false,fF a b c d,fK a b c d⟩=0
    .rw[hc]
     exact Ga
    .have hH:=Uy hc
     generalize cY ⟨false,fF a b c d,fK a b c d⟩=ck at *;generalize fF a b c d=mn at *;generalize fK a b c d=mx at *;go_wp2;refine bodyPost_ret (v:=sv ⟨false,-2147483648,2147483647⟩) Ko rfl ⟨by rw[hH],?_⟩;exact((H5.setCell au _).setCell au _).setCell au _
 .have HB:Below (R (M w)) w ((((((w.alloc (A #[O false,.int .i64 lo,.int .i64 hi] 89)).alloc (A #[O false,.int .i64 xt,.int .i64 xu] 89)).alloc (A #[O false,.int .i64 0,.int .i64 0] 89)).alloc (A #[.int .i64 xt,.int .i64 xu] 3)).alloc (A #[.int .i64 lo,.int .i64 hi] 3)).drew):=by go_grown
  have f0:((((((w.alloc (A #[O false,.int .i64 lo,.int .i64 hi] 89)).alloc (A #[O false,.int .i64 xt,.int .i64 xu] 89)).alloc (A #[O false,.int .i64 0,.int .i64 0] 89)).alloc (A #[.int .i64 xt,.int .i64 xu] 3)).alloc (A #[.int .i64 lo,.int .i64 hi] 3)).drew).cell? ⟨R (M w)+1+1+1+1,0,E⟩=G (.int .i64 lo):=aE;have f1:((((((w.alloc (A #[O false,.int .i64 lo,.int .i64 hi] 89)).alloc (A #[O false,.int .i64 xt,.int .i64 xu] 89)).alloc (A #[O false,.int .i64 0,.int .i64 0] 89)).alloc (A #[.int .i64 xt,.int .i64 xu] 3)).alloc (A #[.int .i64 lo,.int .i64 hi] 3)).drew).cell? ⟨R (M w)+1+1+1+1,1,E⟩=G (.int .i64 hi):=aE;have f2:((((((w.alloc (A #[O false,.int .i64 lo,.int .i64 hi] 89)).alloc (A #[O false,.int .i64 xt,.int .i64 xu] 89)).alloc (A #[O false,.int .i64 0,.int .i64 0] 89)).alloc (A #[.int .i64 xt,.int .i64 xu] 3)).alloc (A #[.int .i64 lo,.int .i64 hi] 3)).drew).cell? ⟨R (M w)+1+1+1,0,E⟩=G (.int .i64 xt):=aE;have f3:((((((w.alloc (A #[O false,.int .i64 lo,.int .i64 hi] 89)).alloc (A #[O false,.int .i64 xt,.int .i64 xu] 89)).alloc (A #[O false,.int .i64 0,.int .i64 0] 89)).alloc (A #[.int .i64 xt,.int .i64 xu] 3)).alloc (A #[.int .i64 lo,.int .i64 hi] 3)).drew).cell? ⟨R (M w)+1+1+1,1,E⟩=G (.int .i64 xu):=aE;have zz:R (M ((((((w.alloc (A #[O false,.int .i64 lo,.int .i64 hi] 89)).alloc (A #[O false,.int .i64 xt,.int .i64 xu] 89)).alloc (A #[O false,.int .i64 0,.int .i64 0] 89)).alloc (A #[.int .i64 xt,.int .i64 xu] 3)).alloc (A #[.int .i64 lo,.int .i64 hi] 3)).drew))=R (M w)+5:=ae;have za:R (M w)+1+1+1+1 < R (M ((((((w.alloc (A #[O false,.int .i64 lo,.int .i64 hi] 89)).alloc (A #[O false,.int .i64 xt,.int .i64 xu] 89)).alloc (A #[O false,.int .i64 0,.int .i64 0] 89)).alloc (A #[.int .i64 xt,.int .i64 xu] 3)).alloc (A #[.int .i64 lo,.int .i64 hi] 3)).drew)):=ae;have zb:R (M w)+1+1+1 < R (M ((((((w.alloc (A #[O false,.int .i64 lo,.int .i64 hi] 89)).alloc (A #[O false,.int .i64 xt,.int .i64 xu] 89)).alloc (A #[O false,.int .i64 0,.int .i64 0] 89)).alloc (A #[.int .i64 xt,.int .i64 xu] 3)).alloc (A #[.int .i64 lo,.int .i64 hi] 3)).drew)):=ae;have KR:∀wx,Below (R (M ((((((w.alloc (A #[O false,.int .i64 lo,.int .i64 hi] 89)).alloc (A #[O false,.int .i64 xt,.int .i64 xu] 89)).alloc (A #[O false,.int .i64 0,.int .i64 0] 89)).alloc (A #[.int .i64 xt,.int .i64 xu] 3)).alloc (A #[.int .i64 lo,.int .i64 hi] 3)).drew))) ((((((w.alloc (A #[O false,.int .i64 lo,.int .i64 hi] 89)).alloc (A #[O false,.int .i64 xt,.int .i64 xu] 89)).alloc (A #[O false,.int .i64 0,.int .i64 0] 89)).alloc (A #[.int .i64 xt,.int .i64 xu] 3)).alloc (A #[.int .i64 lo,.int .i64 hi] 3)).drew) wx->wx.cell? ⟨R (M w)+1+1,0,E⟩=G (O false)/\wx.cell? ⟨R (M w)+1+1,1,E⟩=G (.int .i64 0)/\wx.cell? ⟨R (M w)+1+1,2,E⟩=G (.int .i64 0)/\wx.frozen? ⟨R (M w)+1+1,0,E⟩=false/\wx.frozen? ⟨R (M w)+1+1,1,E⟩=false/\wx.frozen? ⟨R (M w)+1+1,2,E⟩=false:=by
   exact Ip
  generalize ((((((w.alloc (A #[O false,.int .i64 lo,.int .i64 hi] 89)).alloc (A #[O false,.int .i64 xt,.int .i64 xu] 89)).alloc (A #[O false,.int .i64 0,.int .i64 0] 89)).alloc (A #[.int .i64 xt,.int .i64 xu] 3)).alloc (A #[.int .i64 lo,.int .i64 hi] 3)).drew)=W at HB f0 f1 f2 f3 zz za zb KR |-;generalize (R (M w))+1+1+1+1=ga at f0 f1 za |-;generalize (R (M w))+1+1+1=gb at f2 f3 zb |-;have K:∀wx,bl W wx->wx.cell? ⟨ga,0,E⟩=G (.int .i64 lo)/\wx.cell? ⟨ga,1,E⟩=G (.int .i64 hi)/\wx.cell? ⟨gb,0,E⟩=G (.int .i64 xt)/\wx.cell? ⟨gb,1,E⟩=G (.int .i64 xu):=by
   intro wx hb;rw[hb.cell za,hb.cell za,hb.cell zb,hb.cell zb];exact⟨f0,f1,f2,f3⟩
  have K00:=λwx hb=>(show _/\_ from⟨(K wx hb).1,(K wx hb).2.2.1⟩);have K01:=λwx hb=>(show _/\_ from⟨(K wx hb).1,(K wx hb).2.2.2⟩);have K10:=λwx hb=>(show _/\_ from⟨(K wx hb).2.1,(K wx hb).2.2.1⟩);have K11:=λwx hb=>(show _/\_ from⟨(K wx hb).2.1,(K wx hb).2.2.2⟩);clear K f0 f1 f2 f3;go_wp2;go_loopw [7,10] (λl i wr=>∃I:Nat,I<=2/\i=.int .i64 I/\wr.ownsRow (R (M W)) 3 1 l (2 * I) (([a,b,c,d].take (2 * I)).map (.int .i64))/\bl W wr) (λ_ i _=>2 - (intOf i).toNat)
  case atStart=>exact⟨0,aa,rfl,⟨ae,.inl ⟨rfl,ae⟩⟩,bR _ _⟩
  case round=>
   obtain⟨I,hI,rfl,xK,xA⟩:=hrel;rcases (by omega:I=0\/I=1\/I=2) with rfl|rfl|rfl
   .rw[show ((0:Nat):Int)=0 from rfl]
    exact Hq
   .rw[show ((1:Nat):Int)=1 from rfl]
    exact Gw
   .clear K00 K01 K10 K11
    rw[show 2 * 2=4 from rfl] at xK;obtain⟨g,cap,rfl,hg1,zh⟩:=xK.form aa;have q0:=xK.cellAt 0 aa;have q1:=xK.cellAt 1 aa;have q2:=xK.cellAt 2 aa;have q3:=xK.cellAt 3 aa;simp only[List.take,List.map,List.getElem?_cons_zero,List.getElem?_cons_succ] at q0 q1 q2 q3;clear xK;clear h1 h2 h3 h4;go_wp2_with (first
     |(go_at_call 207;refine(a1d _ _ a b c d _ q0 q1 q2 q3).mono ?_;rintro e w' ⟨rfl,rfl⟩)
     |(go_at_call 208;refine(a3j _ _ a b c d _ q0 q1 q2 q3).mono ?_;rintro e w' ⟨rfl,rfl⟩)
     |(go_at_call 209;fail))
    refine(yL ⟨false,fF a b c d,fK a b c d⟩ _).mono ?_;rintro e w5 ⟨rfl,xw⟩;have qi:=MV;have H5:bl w w5:=HB.trans (qi.mono aa);obtain⟨r0,r1,r2,k0,k1,k2⟩:=KR w5 qi;obtain⟨o0,o1,o2⟩:=DX xw ae;have y1:R (M w') < R (M w5):=by have:=xw.size;simp at this;omega
    have y2:R (M w)+1+1 < R (M w'):=by have:=xA.size;omega
    clear KR xw qi xA HB q0 q1 q2 q3;by_cases hc:cY ⟨false,fF a b c d,fK a b c d⟩=0
    .rw[hc]
     exact Ga
    .have hH:=Uy hc
     generalize cY ⟨false,fF a b c d,fK a b c d⟩=ck at *;generalize fF a b c d=mn at *;generalize fK a b c d=mx at *;go_wp2;refine bodyPost_ret (v:=sv ⟨false,-2147483648,2147483647⟩) Ko rfl ⟨by rw[hH],?_⟩;exact((H5.setCell au _).setCell au _).setCell au _):=h
def V6 (lo hi xt xu a b c d:Int)(w:C)(h1:j0.wrap (lo+xt)=a)(h2:j0.wrap (lo+xu)=b)(h3:j0.wrap (hi+xt)=c)(h4:j0.wrap (hi+xu)=d):
  Calls f 172 #[.int .i64 5,sv ⟨BT,lo,hi⟩,sv ⟨BT,xt,xu⟩] w λe w'=>e=Rt (sv (i7 a b c d))/\bl w w':=yq
def Wk (lo hi xt xu a b c d:Int)(w:C)(h1:j0.wrap (lo - xt)=a)(h2:j0.wrap (lo - xu)=b)(h3:j0.wrap (hi - xt)=c)(h4:j0.wrap (hi - xu)=d):
  Calls f 172 #[.int .i64 6,sv ⟨BT,lo,hi⟩,sv ⟨BT,xt,xu⟩] w λe w'=>e=Rt (sv (i7 a b c d))/\bl w w':=yq
def We (lo hi xt xu a b c d:Int)(w:C)(h1:j0.wrap (lo * xt)=a)(h2:j0.wrap (lo * xu)=b)(h3:j0.wrap (hi * xt)=c)(h4:j0.wrap (hi * xu)=d):
  Calls f 172 #[.int .i64 7,sv ⟨BT,lo,hi⟩,sv ⟨BT,xt,xu⟩] w λe w'=>e=Rt (sv (i7 a b c d))/\bl w w':=yq
def DZ:(Tryz.prog.info? 9).map (λi=>(i.zero,i.size,i.bytes))=G (G (.string ⟨#[]⟩),1,16):=ac
def ip (a b:Bool):(a=W5/\b=W5)\/a=d\/(a=W5/\b=d):=by cases a<;>cases b<;>simp

section
variable (g:Gs)(ss:oA)(gc:Nat)(h:Gs)(st:oA)(hc:Nat)(w:C)
def Yx(i:[g,h].any aq=W5):
  Calls f 206 #[gv g ss gc,gv h st hc] w λe w'=>e=Rt (Tu #[O d,O d])/\bl w w':=by
 have B0:=wS;have a:=Eh;rw[zA] at a;have o:=NR;simp only[zA] at o;have q:=Rg;rw[i] at q;clear i;go_enter func206,ntmps206;go_wp2_with fail;go_call q.out 2 _ o as e t ⟨rfl,vZ⟩;go_wp2
 go_ret2
 exact Ez

def gZ(h:p:=by
 rintro e w4 ⟨rfl,xD⟩;have G4:=G3.call xD;have H4:=H3.call xD;have B4:=ug;clear xD G3 H3 B3 I3 J3 G2 H2 g0 g1 g2 g3 g4 g5 g6 gz k0 k1 k2 k3 k4 k5 k6 kz;obtain⟨⟨g0,g1,g2,g3,g4,g5,g6⟩,gz⟩:=id G4;obtain⟨⟨k0,k1,k2,k3,k4,k5,k6⟩,kz⟩:=id H4;simp only[Nat.zero_add] at g0 g1 g2 g3 g4 g5 g6 k0 k1 k2 k3 k4 k5 k6;generalize hA':(sl.any λx=>h'.contains x)=al at *;have HAL:=ag hA';clear hA';go_wp2_with fail;refine(HA.out _).mono ?_;rintro e w9 ⟨rfl,ji⟩;go_wp2
 go_ret2
 exact⟨rr sS rfl,B4.trans (ji.mono B4.size)⟩):=h
def gd(h:p:=by
 refine(HA.out _).mono ?_;rintro e w9 ⟨rfl,ji⟩;go_wp2
 go_ret2
 exact⟨rr sS rfl,B3.trans (ji.mono B3.size)⟩):=h
def Y6(hs:yv w ss g.s)(a:X g.s<=9223372036854775807)(b:yv w st h.s)(xy:X h.s<=9223372036854775807)(j:bO g.sp h.sp=0)(i:[g,h].any aq=d):
  Calls pG 206 #[gv g ss gc,gv h st hc] w λe w'=>e=Rt (Tu #[O ((g.n&&h.n)||(!(aS g.sp h.sp).n||((g.t&&h.t)||((g.f&&h.f)||g.s.any λx=>h.s.contains x)))),O (!dw g h)])/\bl w w':=by
 have B0:=wS;have G0:=DO;have H0:=Eh;rw[zA] at H0;have o:=NR;simp only[zA] at o;have q:=Rg;rw[i] at q;have B:=λw=>nR g.sp h.sp w;rw[j,show∀r,gR 0 r=r from λr=>rfl] at B;have z:=ag B;clear i j B;have HA:=ag (λw=>SQ g ss gc h st hc w);have HY:Hid (((g.n&&h.n)||(!(aS g.sp h.sp).n||((g.t&&h.t)||((g.f&&h.f)||g.s.any λx=>h.s.contains x))))=((g.n&&h.n)||(!(aS g.sp h.sp).n||((g.t&&h.t)||((g.f&&h.f)||g.s.any λx=>h.s.contains x))))):=rfl;generalize hy:((g.n&&h.n)||(!(aS g.sp h.sp).n||((g.t&&h.t)||((g.f&&h.f)||g.s.any λx=>h.s.contains x))))=yy;have HY:=ag hy.symm;clear hy;generalize aS g.sp h.sp=M at z HY;generalize dw g h=ak at HA |-;have I0:=hs.below B0 (lR _);have J0:=b.below B0 (lR _);clear hs b;go_enter func206,ntmps206;go_wp2_with fail;go_call q.out 2 _ o as e w1 ⟨rfl,vZ⟩;have u:=dG;have v:=gL;have D:=eh;have J1:=ik;have B1:=dB;clear vZ G0 H0 I0 J0 B0 o q;obtain⟨⟨g0,g1,g2,g3,g4,g5,g6⟩,gz⟩:=id u;obtain⟨⟨k0,k1,k2,k3,k4,k5,k6⟩,kz⟩:=id v;simp only[j3] at g0 g1 g2 g3 g4 g5 g6 k0 k1 k2 k3 k4 k5 k6;go_wp2_with fail;go_call z.out _ as e Q ⟨rfl,xj⟩;have G3:=(u.call xj).alloc (A #[O M.n,I Y M.lo,I Y M.hi] 89);have H3:=(v.call xj).alloc (A #[O M.n,I Y M.lo,I Y M.hi] 89);have I3:=(D.call xj).alloc (A #[O M.n,I Y M.lo,I Y M.hi] 89);have J3:=(J1.call xj).alloc (A #[O M.n,I Y M.lo,I Y M.hi] 89);have y:=fU;have B3:=y.alloc y.size (A #[O M.n,I Y M.lo,I Y M.hi] 89);have G2:=u.call xj;have H2:=v.call xj;clear xj u v D J1 B1 y g0 g1 g2 g3 g4 g5 g6 gz k0 k1 k2 k3 k4 k5 k6 kz z;obtain⟨⟨g0,g1,g2,g3,g4,g5,g6⟩,gz⟩:=id G2;obtain⟨⟨k0,k1,k2,k3,k4,k5,k6⟩,kz⟩:=id H2;simp only[j3] at g0 g1 g2 g3 g4 g5 g6 k0 k1 k2 k3 k4 k5 k6;obtain⟨n,sp,t,f,sl⟩:=g;obtain⟨l,k,s,m,h'⟩:=h;obtain⟨F,H,K⟩:=M;simp only at a xy;have HY:=HY;rcases ip n l with⟨rfl,rfl⟩|rfl|⟨rfl,rfl⟩
 .go_wp2_with fail
  exact gd
 .cases F with
  |false=>
   go_wp2_with fail;exact gd
  |true=>
   rcases ip t s with⟨rfl,rfl⟩|rfl|⟨rfl,rfl⟩
   .go_wp2_with fail
    exact gd
   .rcases ip f m with⟨rfl,rfl⟩|rfl|⟨rfl,rfl⟩
    .go_wp2_with fail
     exact gd
    .go_wp2_with fail
     refine(cV (w.heap.size+1) (λx=>h'.contains x) ss gc sl _ a I3 λx wx c=>g8 x _ _ st hc wx (H3.call c) (J3.call c) fj).mono ?_;exact gZ
    .go_wp2_with fail
     refine(cV (w.heap.size+1) (λx=>h'.contains x) ss gc sl _ a I3 λx wx c=>g8 x _ _ st hc wx (H3.call c) (J3.call c) fj).mono ?_;exact gZ
   .rcases ip f m with⟨rfl,rfl⟩|rfl|⟨rfl,rfl⟩
    .go_wp2_with fail
     exact gd
    .go_wp2_with fail
     refine(cV (w.heap.size+1) (λx=>h'.contains x) ss gc sl _ a I3 λx wx c=>g8 x _ _ st hc wx (H3.call c) (J3.call c) fj).mono ?_;exact gZ
    .go_wp2_with fail
     refine(cV (w.heap.size+1) (λx=>h'.contains x) ss gc sl _ a I3 λx wx c=>g8 x _ _ st hc wx (H3.call c) (J3.call c) fj).mono ?_;exact gZ
 .cases F with
  |false=>
   go_wp2_with fail;exact gd
  |true=>
   rcases ip t s with⟨rfl,rfl⟩|rfl|⟨rfl,rfl⟩
   .go_wp2_with fail
    exact gd
   .rcases ip f m with⟨rfl,rfl⟩|rfl|⟨rfl,rfl⟩
    .go_wp2_with fail
     exact gd
    .go_wp2_with fail
     refine(cV (w.heap.size+1) (λx=>h'.contains x) ss gc sl _ a I3 λx wx c=>g8 x _ _ st hc wx (H3.call c) (J3.call c) fj).mono ?_;exact gZ
    .go_wp2_with fail
     refine(cV (w.heap.size+1) (λx=>h'.contains x) ss gc sl _ a I3 λx wx c=>g8 x _ _ st hc wx (H3.call c) (J3.call c) fj).mono ?_;exact gZ
   .rcases ip f m with⟨rfl,rfl⟩|rfl|⟨rfl,rfl⟩
    .go_wp2_with fail
     exact gd
    .go_wp2_with fail
     refine(cV (w.heap.size+1) (λx=>h'.contains x) ss gc sl _ a I3 λx wx c=>g8 x _ _ st hc wx (H3.call c) (J3.call c) fj).mono ?_;exact gZ
    .go_wp2_with fail
     refine(cV (w.heap.size+1) (λx=>h'.contains x) ss gc sl _ a I3 λx wx c=>g8 x _ _ st hc wx (H3.call c) (J3.call c) fj).mono ?_;exact gZ
end
def Ys:
  Calls f 152 #[Ag #[I Y 2,I Y 1]] w λe w'=>e=Rt (.string ⟨#[116,114,117,101]⟩)/\bl w w':=by
 have m:=Rk;have j:=MJ;have l:=pJ;have o:(eD W5).k=2:=rfl;have c:(eD W5).n=1:=rfl;have i:n4 (R (M w)) w (w.alloc (A #[I Y 2,I Y 1] 82)):=ai;go_enter func152,ntmps152;go_wp2;refine wp_region_quiet_below ac ac ?_;repeat (quiet_step (first|exact Calls.regrown_of (dD d _)|exact Calls.regrown_of (dD W5 _)))
 refine wpQuiet_nil ?_;intro _ g;obtain⟨⟨r,osq⟩,b⟩:=g;subst b;go_wp2;go_ret;exact⟨rfl,Below.trans ai ((below_regrown _ r osq).mono lg)⟩

def FN(h:p:=by
 have c0:=cell_regrown d0;have c1:=cell_regrown d1;go_wp2;refine wp_region_quiet_below ac ac ?_;repeat (quiet_step (first|exact Calls.regrown_of (dD false _)|exact Calls.regrown_of (dD true _)))
 refine wpQuiet_nil ?_;intro _ qp;obtain⟨⟨dq,osq⟩,qq⟩:=qp;subst qq;go_wp2;go_ret;exact⟨rfl,vZ.trans ((below_regrown _ dq osq).mono vZ.size)⟩):=h
def Wm:
  Calls f 152 #[Ag #[I Y 2,I Y 0]] w λe w'=>e=Rt (.string ⟨#[102,97,108,115,101]⟩)/\bl w w':=by
 have c0:=MN;have c1:=OW;have q:=pP;have l:=pJ;have o:(eD W5).k=2:=rfl;have c:(eD W5).n=1:=rfl;have i:n4 (R (M w)) w (w.alloc (A #[I Y 2,I Y 0] 82)):=ai;go_enter func152,ntmps152;go_wp2;refine wp_region_quiet_below ac ac ?_;repeat (quiet_step (first|exact Calls.regrown_of (dD d _)|exact Calls.regrown_of (dD W5 _)))
 refine wpQuiet_nil ?_;intro _ qp;obtain⟨⟨dq,osq⟩,qq⟩:=qp;subst qq;have vZ:=i.trans ((below_regrown (w.alloc (A #[I Y 2,I Y 0] 82)) dq osq).mono lg);have d0:=c0 dq osq;have d1:=c1 dq osq;clear c0 c1;generalize Go.Sort.grow (redrawn (w.alloc _) dq) osq=w2 at *;exact FN

def a1s:
  Calls f 152 #[Ag #[I Y 0,I Y 0]] w λe w'=>e=Rt (.string ⟨#[110,117,108,108]⟩)/\bl w w':=by
 have c0:=cell_regrown (w:=(w.alloc (A #[I Y 0,I Y 0] 82))) (a:=⟨R (M w),0,E⟩) (v:=I Y 0) aE;have c1:=cell_regrown (w:=(w.alloc (A #[I Y 0,I Y 0] 82))) (a:=⟨R (M w),1,E⟩) (v:=I Y 0) aE;have q:=pP;have l:=pJ;have o:(eD W5).k=2:=rfl;have c:(eD W5).n=1:=rfl;have i:n4 (R (M w)) w (w.alloc (A #[I Y 0,I Y 0] 82)):=ai;go_enter func152,ntmps152;go_wp2;refine wp_region_quiet_below ac ac ?_;repeat (quiet_step (first|exact Calls.regrown_of (dD d _)|exact Calls.regrown_of (dD W5 _)))
 refine wpQuiet_nil ?_;intro _ qp;obtain⟨⟨dq,osq⟩,qq⟩:=qp;subst qq;have vZ:=i.trans ((below_regrown (w.alloc (A #[I Y 0,I Y 0] 82)) dq osq).mono lg);have d0:=c0 dq osq;have d1:=c1 dq osq;clear c0 c1;generalize Go.Sort.grow (redrawn (w.alloc _) dq) osq=w2 at *;exact FN

def Yb:
  Calls f 152 #[Ag #[I Y 3,I Y n]] w λe w'=>e=Rt (.string ⟨#[116,104,105,110,103]⟩)/\bl w w':=by
 go_enter func152,ntmps152;go_wp2;go_ret;exact cP
def a2W(c:a5A n)(b:Tab w):
  Calls f 152 #[Ag #[I Y 1,I Y n]] w λe w'=>e=Rt (.string (Mt n))/\bl w w':=by
 have i:n4 (R (M w)) w (w.alloc (A #[I Y 1,I Y n] 82)):=ai;go_enter func152,ntmps152;go_wp2_with fail;go_call a3b n _ c (b.below i) as e t ⟨rfl,s⟩;go_wp2;go_ret;exact⟨rfl,i.trans (s.mono i.size)⟩
def a2f(h:bZ T ⟨k,n⟩=W5)(b:Tab w):
  Calls f 152 #[Ag #[I Y k,I Y n]] w λe w'=>e=Rt (.string (nI ⟨k,n⟩))/\bl w w':=by
 by_cases o:k=1
 .subst o
  have r: -2147483648<=n/\n<=2147483647:=by simpa[bZ,btw] using h
  have e:nI ⟨1,n⟩=Mt n:=by simp[nI]
  rw[e];exact a2W n w ⟨aa,aa⟩ b
 by_cases g:k=3
 .subst g
  have e:nI ⟨3,n⟩=⟨#[116,104,105,110,103]⟩:=by simp[nI]
  rw[e];exact Yb n w
 by_cases H:k=2
 .subst H
  have r:0<=n/\n<=1:=by simpa[bZ,btw] using h
  by_cases a:n=1
  .subst a
   exact Ys w
  .obtain rfl:n=0:=by omega
   exact Wm w
 by_cases c:k=0
 .subst c
  obtain rfl:n=0:=by simpa[bZ] using h
  exact a1s w
 .have:bZ T ⟨k,n⟩=false:=by simp[bZ,c,o,H,g]
  rw[this] at h;cases h
end
section
open Go.RowKit
attribute [local go_sem ↓] Go.wp_at_zero Go.wp_at_succ
def a5I(B x:Nat)(s:St)(vv W l:mh)(N:List mh)(t b n g:Int)(w:C)(h:a7a w B m s vv W l N)(D:B<=R (M w))(F:x < X s.vq)(T:Nat)(z:cS T s.vq[x])(hT:Tab w)(Z:(X s.lines+1) * 16<=140737488355328):
  Calls f 86 #[Pp (G ⟨m,0,E⟩),Ag #[I Y 18,I Y t,I Y x,I Y b,I Y n,I Y g]] w λe w'=>e=Rt (I Y 0)/\a7p w w' B m (aP m vv W l N) {s with lines:=s.lines++[nI s.vq[x]]}:=by
 have hm:=bV;have z1:=eS;obtain⟨gb,ao,rfl,a7,a0,ak,a2⟩:=dC;have q1:=h.vars_;have z2:=eR;obtain⟨a1,a4⟩:=ak x F;have a8:=iu;have ba:=iv;have q4:=h.lines_;have K1:∀wx,n4 (R (M w)+1) (w.alloc (A #[I Y 18,I Y t,I Y x,I Y b,I Y n,I Y g] 100)) wx->wx.cell? ⟨m,1,E⟩=G (U (G ⟨gb,0,E⟩) (X s.vq) ao)/\wx.cell? ⟨m,4,E⟩=G l/\wx.cell? ⟨R (M w),2,E⟩=G (I Y x)/\wx.cell? ⟨gb,x * 2,E⟩=G (I Y s.vq[x].k)/\wx.cell? ⟨gb,x * 2+1,E⟩=G (I Y s.vq[x].n):=by
  intro wx r;rw[r.cell gp,r.cell gp,r.cell ae,r.cell fr,r.cell fr];simp[go_sem,hm,q1,q4,a0,a1,a4]
 obtain⟨ti,hi,a3,az,ay⟩:=info_parts DZ;have hG:n4 (R (M w)) w (w.alloc (A #[I Y 18,I Y t,I Y x,I Y b,I Y n,I Y g] 100)).drew:=ai;have HX:=aL (a2f T _ _ _ (okValB_iff.2 z) (hT.below hG));clear ak;generalize nI s.vq[x]=sh at *;go_enter func86,ntmps86;go_wp2;refine XK [21] ac K1 (bR _ _).drew (λad=> ?_);refine QQ ?_;refine QS ?_;refine QN 14 ?_;refine av (i:=15) rfl ac (λK L=> ?_);go_simp;go_at_call 152;go_call HX.out as e w1 ⟨rfl,af⟩;have zX:n4 (R (M w)+1) (w.alloc (A #[I Y 18,I Y t,I Y x,I Y b,I Y n,I Y g] 100)) w1:=Below.trans (bR _ _).drew (Below.mono af ae);go_wp2_with fail;refine L.out _ _ (K1 _ zX) (λad=> ?_);clear L K;(try simp only[stp,j2]);refine av (i:=16) rfl ac (λK L=> ?_);go_simp;have ap:n4 (R (M w)+1) (w.alloc (A #[I Y 18,I Y t,I Y x,I Y b,I Y n,I Y g] 100)) (w1.alloc (A #[.string sh] 9)):=zX.alloc KP _;refine L.out _ _ (K1 _ ap) (λad=> ?_);clear L K;(try simp only[stp,j2]);refine av (i:=17) rfl ac (λK L=> ?_);have o1:=h.below (hG.trans (af.mono hG.size));have al:n4 (R (M w1)) w1 (w1.alloc (A #[.string sh] 9)):=ai;have o2:=o1.below al;obtain⟨p1,p2,_⟩:=o2.parted;refine step_append_lies _ rfl _ _ 31 rfl B 9 ti (.string ⟨#[]⟩) 1 16 underlying31 hi a3 az ay rfl an _ _ _ rfl o2.lines ⟨R (M w1),0,E⟩ 1 1 [.string sh] rfl rfl (λj u V=>World.news_of_block (heap_alloc_new _ _) j u V) Kd aa cL Z (by have:=o2.lt (k:=m) (by simp[aP]);have:=h.low;omega) _ rfl ?_;intro gl cl w3 ar ab a5 bb;have a9:R (M w)+1<=R (M w1):=KP;have far:∀b j,b < R (M w)+1->G b≠l.ownBlock->w3.cell? ⟨b,j,E⟩=(w1.alloc (A #[.string sh] 9)).cell? ⟨b,j,E⟩:=λb j o H=>ab.cell_far ⟨b,j,E⟩ au H;have nm:G m≠l.ownBlock:=λe=>p1 m sI rfl;have ng:G gb≠l.ownBlock:=λe=>p2 gb rfl sI;have nb:G (R (M w))≠l.ownBlock:=λe=>by have:=h.lt (k:=R (M w)) (by rw[e];simp[aP]);omega
 have ax:w3.cell? ⟨m,1,E⟩=G (U (G ⟨gb,0,E⟩) (X s.vq) ao)/\w3.cell? ⟨m,4,E⟩=G l/\w3.cell? ⟨R (M w),2,E⟩=G (I Y x)/\w3.cell? ⟨gb,x * 2,E⟩=G (I Y s.vq[x].k)/\w3.cell? ⟨gb,x * 2+1,E⟩=G (I Y s.vq[x].n):=by
  obtain⟨s1,s2,s3,s4,s5⟩:=K1 _ ap;refine⟨?_,?_,?_,?_,?_⟩
  .rw[far m _ z1 nm];exact s1
  .rw[far m _ z1 nm];exact s2
  .rw[far _ _ aa nb];exact s3
  .rw[far gb _ z2 ng];exact s4
  .rw[far gb _ z2 ng];exact s5
 refine L.out _ _ ax (λad=> ?_);clear L K;(try simp only[stp,j2]);refine QN 18 ?_;refine QN 19 ?_;refine QN 20 ?_;refine aM (i:=21) rfl ac ac (λK L=> ?_);have d4:w3.frozen? ⟨m,4,E⟩=false:=by rw[ab.frozen_far ⟨m,4,E⟩ (by simp;omega) nm];exact o2.thaw 4
 go_simp;refine L.out _ _ ?_;clear L K;(try simp only[stp,j2]);refine aB ac ?_ _;go_wp2;go_ret;have a6:=h.low;have HW:n4 B w w3:=Below.grown (((hG.mono D).trans (af.mono (by have:=hG.size;omega))).trans (al.mono aa)) ab au (λk y=>(aW o2.lines y).2)
 refine⟨rfl,⟨_,_,_,_,o2.grow_lines au ar ab (a5.imp id (λe=>by rw[e];exact lR _))⟩,HW.setCell a6 _,λj V=> ?_,dl (ed ((hG.trans (af.mono hG.size)).trans (al.mono aa))) au (GQ ab (λk y=>by have e:l.ownBlock=G k:=y;unfold aP;rw[e];simp) fL _ _)⟩;rw[World.cell?_setCell_other _ _ _ _ pC,far m _ z1 nm,al.cell au,af.cell au,hG.cell mR]
