import Derived.Test.YtmapdpcfanecdabGreatDoorU22
open Go.Ending renaming returned→Rt
open Go.IntKind renaming i64→Y
open Go.Obj renaming cells→Cc
open Go.Proofs.Tryz renaming prog→pG
open Go.Value renaming agg→Ag,bool→Bb,int→I,slice→U,tuple→Tu
open Nat renaming le_refl→lR
open Option renaming none→nO,some→sO
set_option linter.unusedSimpArgs false
set_option linter.unusedVariables false
set_option maxHeartbeats 4000000
set_option maxRecDepth 20000
namespace Go.Proofs.YtmapdpcfanecdabGreatDoor
section
open Go.RowKit
theorem yO (V F:Int)(s:oA)(len cap N:Nat)(tto a b n g:Int)(w:World)(hV:1<=V)(hV':V<=8)(hF:0<=F)(hF':F<=3)(hL:len<=60)(hs:ShpAt N shps w):
  Calls pG 128 #[Ag #[I Y V,I Y F,U s len cap],.map (sO N),Ag #[I Y 1,I Y tto,I Y a,I Y b,I Y n,I Y g]] w λe w'=>e=Rt (I Y (bk V F len ⟨1,tto,a,b,n,g⟩))/\bl w w':=by
 have hb0:Below w.heap.size w ((w.alloc (Cc #[I Y V,I Y F,U s len cap] 24)).alloc (Cc #[I Y 1,I Y tto,I Y a,I Y b,I Y n,I Y g] 100)):=ai;have hl:(Instr.lookup 179 (.map (sO N)) (I Y 1) true).run pG _=.ok (Tu #[Ag #[.string (aQ 1),U (sO ⟨N+1,0,nO⟩) 2 2],Bb true]) _:=cS (hs.below hb0 (lR _)) 1 0 _ rfl;have hz:N+1 < w.heap.size:=(aq hs 0 0 aj aj (I Y 0) rfl).2;have p0:w.cell? ⟨N+1,0,nO⟩=sO (I Y 0):=(aq hs 0 0 aj aj (I Y 0) rfl).1;have p1:w.cell? ⟨N+1,1,nO⟩=sO (I Y 4):=(aq hs 0 1 aj aj (I Y 4) rfl).1;clear hb0 hs;exact dt

theorem Ay (V F:Int)(s:oA)(len cap N:Nat)(tto a b n g:Int)(w:World)(hV:1<=V)(hV':V<=8)(hF:0<=F)(hF':F<=3)(hL:len<=60)(hs:ShpAt N shps w):
  Calls pG 128 #[Ag #[I Y V,I Y F,U s len cap],.map (sO N),Ag #[I Y 2,I Y tto,I Y a,I Y b,I Y n,I Y g]] w λe w'=>e=Rt (I Y (bk V F len ⟨2,tto,a,b,n,g⟩))/\bl w w':=by
 have hb0:Below w.heap.size w ((w.alloc (Cc #[I Y V,I Y F,U s len cap] 24)).alloc (Cc #[I Y 2,I Y tto,I Y a,I Y b,I Y n,I Y g] 100)):=ai;have hl:(Instr.lookup 179 (.map (sO N)) (I Y 2) true).run pG _=.ok (Tu #[Ag #[.string (aQ 2),U (sO ⟨N+2,0,nO⟩) 2 2],Bb true]) _:=cS (hs.below hb0 (lR _)) 2 1 _ rfl;have hz:N+2 < w.heap.size:=(aq hs 1 0 aj aj (I Y 0) rfl).2;have p0:w.cell? ⟨N+2,0,nO⟩=sO (I Y 0):=(aq hs 1 0 aj aj (I Y 0) rfl).1;have p1:w.cell? ⟨N+2,1,nO⟩=sO (I Y 5):=(aq hs 1 1 aj aj (I Y 5) rfl).1;clear hb0 hs;exact dt

theorem Aw (V F:Int)(s:oA)(len cap N:Nat)(tto a b n g:Int)(w:World)(hV:1<=V)(hV':V<=8)(hF:0<=F)(hF':F<=3)(hL:len<=60)(hs:ShpAt N shps w):
  Calls pG 128 #[Ag #[I Y V,I Y F,U s len cap],.map (sO N),Ag #[I Y 3,I Y tto,I Y a,I Y b,I Y n,I Y g]] w λe w'=>e=Rt (I Y (bk V F len ⟨3,tto,a,b,n,g⟩))/\bl w w':=by
 have hb0:Below w.heap.size w ((w.alloc (Cc #[I Y V,I Y F,U s len cap] 24)).alloc (Cc #[I Y 3,I Y tto,I Y a,I Y b,I Y n,I Y g] 100)):=ai;have hl:(Instr.lookup 179 (.map (sO N)) (I Y 3) true).run pG _=.ok (Tu #[Ag #[.string (aQ 3),U (sO ⟨N+3,0,nO⟩) 1 1],Bb true]) _:=cS (hs.below hb0 (lR _)) 3 2 _ rfl;have hz:N+3 < w.heap.size:=(aq hs 2 0 aj aj (I Y 0) rfl).2;have p0:w.cell? ⟨N+3,0,nO⟩=sO (I Y 0):=(aq hs 2 0 aj aj (I Y 0) rfl).1;clear hb0 hs;exact dt

theorem yV (V F:Int)(s:oA)(len cap N:Nat)(tto a b n g:Int)(w:World)(hV:1<=V)(hV':V<=8)(hF:0<=F)(hF':F<=3)(hL:len<=60)(hs:ShpAt N shps w):
  Calls pG 128 #[Ag #[I Y V,I Y F,U s len cap],.map (sO N),Ag #[I Y 4,I Y tto,I Y a,I Y b,I Y n,I Y g]] w λe w'=>e=Rt (I Y (bk V F len ⟨4,tto,a,b,n,g⟩))/\bl w w':=by
 have hb0:Below w.heap.size w ((w.alloc (Cc #[I Y V,I Y F,U s len cap] 24)).alloc (Cc #[I Y 4,I Y tto,I Y a,I Y b,I Y n,I Y g] 100)):=ai;have hl:(Instr.lookup 179 (.map (sO N)) (I Y 4) true).run pG _=.ok (Tu #[Ag #[.string (aQ 4),U (sO ⟨N+4,0,nO⟩) 2 2],Bb true]) _:=cS (hs.below hb0 (lR _)) 4 3 _ rfl;have hz:N+4 < w.heap.size:=(aq hs 3 0 aj aj (I Y 0) rfl).2;have p0:w.cell? ⟨N+4,0,nO⟩=sO (I Y 0):=(aq hs 3 0 aj aj (I Y 0) rfl).1;have p1:w.cell? ⟨N+4,1,nO⟩=sO (I Y 1):=(aq hs 3 1 aj aj (I Y 1) rfl).1;clear hb0 hs;exact dt

theorem wX (V F:Int)(s:oA)(len cap N:Nat)(tto a b n g:Int)(w:World)(_hV:1<=V)(_hV':V<=8)(_hF:0<=F)(_hF':F<=3)(_hL:len<=60)(hs:ShpAt N shps w):
  Calls pG 128 #[Ag #[I Y V,I Y F,U s len cap],.map (sO N),Ag #[I Y 19,I Y tto,I Y a,I Y b,I Y n,I Y g]] w λe w'=>e=Rt (I Y (bk V F len ⟨19,tto,a,b,n,g⟩))/\bl w w':=by
 have hb0:Below w.heap.size w ((w.alloc (Cc #[I Y V,I Y F,U s len cap] 24)).alloc (Cc #[I Y 19,I Y tto,I Y a,I Y b,I Y n,I Y g] 100)):=ai;have hl:(Instr.lookup 179 (.map (sO N)) (I Y 19) true).run pG _=.ok (Tu #[Ag #[.string (aQ 19),U nO 0 0],Bb true]) _:=cS (hs.below hb0 (lR _)) 19 18 _ rfl;clear hb0 hs;go_enter Tryz.func128,Tryz.ntmps128;go_wp2;refine wp_loop_rounds 1 ?_;rw[rounds_succ];go_wp2;all_goals go_ret
 all_goals refine⟨bP ?_,ai⟩
 all_goals clear hl
 all_goals simp[bk,nTo,nA,nB,nN,nG,btw]
 all_goals omega

theorem ym (V F:Int)(s:oA)(len cap N:Nat)(k tto a b n g:Int)(w:World)(_hV:1<=V)(_hV':V<=8)(_hF:0<=F)(_hF':F<=3)(_hL:len<=60)(hs:ShpAt N shps w)(hk:btw k 1 19=false):
  Calls pG 128 #[Ag #[I Y V,I Y F,U s len cap],.map (sO N),Ag #[I Y k,I Y tto,I Y a,I Y b,I Y n,I Y g]] w λe w'=>e=Rt (I Y (bk V F len ⟨k,tto,a,b,n,g⟩))/\bl w w':=by
 have hb0:Below w.heap.size w ((w.alloc (Cc #[I Y V,I Y F,U s len cap] 24)).alloc (Cc #[I Y k,I Y tto,I Y a,I Y b,I Y n,I Y g] 100)):=ai;have hl:=Me (hs.below hb0 (lR _)) k hk;have hr:bk V F len ⟨k,tto,a,b,n,g⟩=6:=by simp[bk,hk]
 clear hb0 hs;go_enter Tryz.func128,Tryz.ntmps128;go_wp2;go_ret;exact⟨bP hr.symm,ai⟩

theorem yg (V F:Int)(s:oA)(len cap N:Nat)(tto a b n g:Int)(w:World)(hV:1<=V)(hV':V<=8)(hF:0<=F)(hF':F<=3)(hL:len<=60)(hs:ShpAt N shps w):
  Calls pG 128 #[Ag #[I Y V,I Y F,U s len cap],.map (sO N),Ag #[I Y 11,I Y tto,I Y a,I Y b,I Y n,I Y g]] w λe w'=>e=Rt (I Y (bk V F len ⟨11,tto,a,b,n,g⟩))/\bl w w':=by
 have hb0:Below w.heap.size w ((w.alloc (Cc #[I Y V,I Y F,U s len cap] 24)).alloc (Cc #[I Y 11,I Y tto,I Y a,I Y b,I Y n,I Y g] 100)):=ai;have hl:(Instr.lookup 179 (.map (sO N)) (I Y 11) true).run pG _=.ok (Tu #[Ag #[.string (aQ 11),U (sO ⟨N+11,0,nO⟩) 1 1],Bb true]) _:=cS (hs.below hb0 (lR _)) 11 10 _ rfl;have hz:N+11 < w.heap.size:=(aq hs 10 0 aj aj (I Y 0) rfl).2;have p0:w.cell? ⟨N+11,0,nO⟩=sO (I Y 0):=(aq hs 10 0 aj aj (I Y 0) rfl).1;clear hb0 hs;exact dt
end
end Go.Proofs.YtmapdpcfanecdabGreatDoor
