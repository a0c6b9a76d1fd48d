import Derived.Test.YtmapdpcfanecdabGreatDoorU22
open Go.Ending renaming returned→Rt
open Go.IntKind renaming i64→Y
open Go.Obj renaming cells→Cc
open Go.Proofs.Tryz renaming prog→pG
open Go.Value renaming agg→Ag,bool→Bb,int→I,slice→U,tuple→Tu
open Nat renaming le_refl→lR
open Option renaming none→nO,some→sO
set_option linter.unusedSimpArgs false
set_option linter.unusedVariables false
set_option maxHeartbeats 4000000
set_option maxRecDepth 20000
namespace Go.Proofs.YtmapdpcfanecdabGreatDoor
section
open Go.RowKit
theorem Aj (V F:Int)(s:oA)(len cap N:Nat)(tto a b n g:Int)(w:World)(hV:1<=V)(hV':V<=8)(hF:0<=F)(hF':F<=3)(hL:len<=60)(hs:ShpAt N shps w):
  Calls pG 128 #[Ag #[I Y V,I Y F,U s len cap],.map (sO N),Ag #[I Y 5,I Y tto,I Y a,I Y b,I Y n,I Y g]] w λe w'=>e=Rt (I Y (bk V F len ⟨5,tto,a,b,n,g⟩))/\bl w w':=by
 have hb0:Below w.heap.size w ((w.alloc (Cc #[I Y V,I Y F,U s len cap] 24)).alloc (Cc #[I Y 5,I Y tto,I Y a,I Y b,I Y n,I Y g] 100)):=ai;have hl:(Instr.lookup 179 (.map (sO N)) (I Y 5) true).run pG _=.ok (Tu #[Ag #[.string (aQ 5),U (sO ⟨N+5,0,nO⟩) 3 3],Bb true]) _:=cS (hs.below hb0 (lR _)) 5 4 _ rfl;have hz:N+5 < w.heap.size:=(aq hs 4 0 aj aj (I Y 0) rfl).2;have p0:w.cell? ⟨N+5,0,nO⟩=sO (I Y 0):=(aq hs 4 0 aj aj (I Y 0) rfl).1;have p1:w.cell? ⟨N+5,1,nO⟩=sO (I Y 1):=(aq hs 4 1 aj aj (I Y 1) rfl).1;have p2:w.cell? ⟨N+5,2,nO⟩=sO (I Y 2):=(aq hs 4 2 aj aj (I Y 2) rfl).1;clear hb0 hs;exact dt

theorem AH (V F:Int)(s:oA)(len cap N:Nat)(tto a b n g:Int)(w:World)(hV:1<=V)(hV':V<=8)(hF:0<=F)(hF':F<=3)(hL:len<=60)(hs:ShpAt N shps w):
  Calls pG 128 #[Ag #[I Y V,I Y F,U s len cap],.map (sO N),Ag #[I Y 6,I Y tto,I Y a,I Y b,I Y n,I Y g]] w λe w'=>e=Rt (I Y (bk V F len ⟨6,tto,a,b,n,g⟩))/\bl w w':=by
 have hb0:Below w.heap.size w ((w.alloc (Cc #[I Y V,I Y F,U s len cap] 24)).alloc (Cc #[I Y 6,I Y tto,I Y a,I Y b,I Y n,I Y g] 100)):=ai;have hl:(Instr.lookup 179 (.map (sO N)) (I Y 6) true).run pG _=.ok (Tu #[Ag #[.string (aQ 6),U (sO ⟨N+6,0,nO⟩) 3 3],Bb true]) _:=cS (hs.below hb0 (lR _)) 6 5 _ rfl;have hz:N+6 < w.heap.size:=(aq hs 5 0 aj aj (I Y 0) rfl).2;have p0:w.cell? ⟨N+6,0,nO⟩=sO (I Y 0):=(aq hs 5 0 aj aj (I Y 0) rfl).1;have p1:w.cell? ⟨N+6,1,nO⟩=sO (I Y 1):=(aq hs 5 1 aj aj (I Y 1) rfl).1;have p2:w.cell? ⟨N+6,2,nO⟩=sO (I Y 2):=(aq hs 5 2 aj aj (I Y 2) rfl).1;clear hb0 hs;exact dt

theorem At (V F:Int)(s:oA)(len cap N:Nat)(tto a b n g:Int)(w:World)(hV:1<=V)(hV':V<=8)(hF:0<=F)(hF':F<=3)(hL:len<=60)(hs:ShpAt N shps w):
  Calls pG 128 #[Ag #[I Y V,I Y F,U s len cap],.map (sO N),Ag #[I Y 7,I Y tto,I Y a,I Y b,I Y n,I Y g]] w λe w'=>e=Rt (I Y (bk V F len ⟨7,tto,a,b,n,g⟩))/\bl w w':=by
 have hb0:Below w.heap.size w ((w.alloc (Cc #[I Y V,I Y F,U s len cap] 24)).alloc (Cc #[I Y 7,I Y tto,I Y a,I Y b,I Y n,I Y g] 100)):=ai;have hl:(Instr.lookup 179 (.map (sO N)) (I Y 7) true).run pG _=.ok (Tu #[Ag #[.string (aQ 7),U (sO ⟨N+7,0,nO⟩) 3 3],Bb true]) _:=cS (hs.below hb0 (lR _)) 7 6 _ rfl;have hz:N+7 < w.heap.size:=(aq hs 6 0 aj aj (I Y 0) rfl).2;have p0:w.cell? ⟨N+7,0,nO⟩=sO (I Y 0):=(aq hs 6 0 aj aj (I Y 0) rfl).1;have p1:w.cell? ⟨N+7,1,nO⟩=sO (I Y 1):=(aq hs 6 1 aj aj (I Y 1) rfl).1;have p2:w.cell? ⟨N+7,2,nO⟩=sO (I Y 2):=(aq hs 6 2 aj aj (I Y 2) rfl).1;clear hb0 hs;exact dt

theorem yu (V F:Int)(s:oA)(len cap N:Nat)(tto a b n g:Int)(w:World)(hV:1<=V)(hV':V<=8)(hF:0<=F)(hF':F<=3)(hL:len<=60)(hs:ShpAt N shps w):
  Calls pG 128 #[Ag #[I Y V,I Y F,U s len cap],.map (sO N),Ag #[I Y 16,I Y tto,I Y a,I Y b,I Y n,I Y g]] w λe w'=>e=Rt (I Y (bk V F len ⟨16,tto,a,b,n,g⟩))/\bl w w':=by
 have hb0:Below w.heap.size w ((w.alloc (Cc #[I Y V,I Y F,U s len cap] 24)).alloc (Cc #[I Y 16,I Y tto,I Y a,I Y b,I Y n,I Y g] 100)):=ai;have hl:(Instr.lookup 179 (.map (sO N)) (I Y 16) true).run pG _=.ok (Tu #[Ag #[.string (aQ 16),U (sO ⟨N+16,0,nO⟩) 1 1],Bb true]) _:=cS (hs.below hb0 (lR _)) 16 15 _ rfl;have hz:N+16 < w.heap.size:=(aq hs 15 0 aj aj (I Y 3) rfl).2;have p0:w.cell? ⟨N+16,0,nO⟩=sO (I Y 3):=(aq hs 15 0 aj aj (I Y 3) rfl).1;clear hb0 hs;exact dt

theorem yq (V F:Int)(s:oA)(len cap N:Nat)(tto a b n g:Int)(w:World)(hV:1<=V)(hV':V<=8)(hF:0<=F)(hF':F<=3)(hL:len<=60)(hs:ShpAt N shps w):
  Calls pG 128 #[Ag #[I Y V,I Y F,U s len cap],.map (sO N),Ag #[I Y 17,I Y tto,I Y a,I Y b,I Y n,I Y g]] w λe w'=>e=Rt (I Y (bk V F len ⟨17,tto,a,b,n,g⟩))/\bl w w':=by
 have hb0:Below w.heap.size w ((w.alloc (Cc #[I Y V,I Y F,U s len cap] 24)).alloc (Cc #[I Y 17,I Y tto,I Y a,I Y b,I Y n,I Y g] 100)):=ai;have hl:(Instr.lookup 179 (.map (sO N)) (I Y 17) true).run pG _=.ok (Tu #[Ag #[.string (aQ 17),U (sO ⟨N+17,0,nO⟩) 1 1],Bb true]) _:=cS (hs.below hb0 (lR _)) 17 16 _ rfl;have hz:N+17 < w.heap.size:=(aq hs 16 0 aj aj (I Y 1) rfl).2;have p0:w.cell? ⟨N+17,0,nO⟩=sO (I Y 1):=(aq hs 16 0 aj aj (I Y 1) rfl).1;clear hb0 hs;exact dt
end
end Go.Proofs.YtmapdpcfanecdabGreatDoor
