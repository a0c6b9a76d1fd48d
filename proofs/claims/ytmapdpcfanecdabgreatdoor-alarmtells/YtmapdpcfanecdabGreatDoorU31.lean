import Derived.Test.YtmapdpcfanecdabGreatDoorU29
open Go.Ending renaming returned→Rt
open Go.IntKind renaming i64→Y
open Go.Obj renaming cells→Cc
open Go.Proofs.Tryz renaming prog→pG
open Go.Value renaming agg→Ag,bool→Bb,int→I,slice→U
open Go.World renaming size_alloc→zA
open Option renaming none→nO
set_option linter.unusedSimpArgs false
set_option linter.unusedVariables false
set_option maxHeartbeats 8000000
set_option maxRecDepth 10000
namespace Go.Proofs.YtmapdpcfanecdabGreatDoor
section
open Go.RowKit
theorem uP (g:Gs)(ss:oA)(gc:Nat)(h:Gs)(st:oA)(hc:Nat)(w:World)(hs:IntsAt w ss g.s)(hgl:g.s.length<=9223372036854775807)(ht:IntsAt w st h.s)(hlt':h.s.length<=9223372036854775807):
  Calls pG 114 #[gv g ss gc,gv h st hc,Bb true] w λe w'=>∃v,e=Rt (Ag #[Bb (g.n||h.n),Bb (bq g.sp h.sp).n,I Y (bq g.sp h.sp).lo,I Y (bq g.sp h.sp).hi,Bb (g.t||h.t),Bb (g.f||h.f),v])/\w'.ownsRow w.heap.size 3 1 v (bF g.s h.s 60).length ((bF g.s h.s 60).map (.int .i64))/\bl w w':=by
 obtain⟨ti,hi,hz0,hz1,hz2⟩:=info_parts Tryz.info_intG;obtain⟨G0,H0,B0⟩:=yL w g ss gc h st hc;have G1:=G0.alloc (Cc #[Bb false,Bb false,I Y 0,I Y 0,Bb false,Bb false,U nO 0 0] 91);have H1:=H0.alloc (Cc #[Bb false,Bb false,I Y 0,I Y 0,Bb false,Bb false,U nO 0 0] 91);have B1:=B0.alloc B0.size (Cc #[Bb false,Bb false,I Y 0,I Y 0,Bb false,Bb false,U nO 0 0] 91);have R1:GuAt (((w.alloc (Cc #[Bb g.n,Bb g.sp.n,I Y g.sp.lo,I Y g.sp.hi,Bb g.t,Bb g.f,U ss g.s.length gc] 91)).alloc (Cc #[Bb h.n,Bb h.sp.n,I Y h.sp.lo,I Y h.sp.hi,Bb h.t,Bb h.f,U st h.s.length hc] 91)).alloc (Cc #[Bb false,Bb false,I Y 0,I Y 0,Bb false,Bb false,U nO 0 0] 91)) (w.heap.size+1+1) 0 bC nO 0:=by
  have:=GuAt.new ((w.alloc (Cc #[Bb g.n,Bb g.sp.n,I Y g.sp.lo,I Y g.sp.hi,Bb g.t,Bb g.f,U ss g.s.length gc] 91)).alloc (Cc #[Bb h.n,Bb h.sp.n,I Y h.sp.lo,I Y h.sp.hi,Bb h.t,Bb h.f,U st h.s.length hc] 91)) bC nO 0;simp only[zA] at this;exact this
 have F1:Fr7 (((w.alloc (Cc #[Bb g.n,Bb g.sp.n,I Y g.sp.lo,I Y g.sp.hi,Bb g.t,Bb g.f,U ss g.s.length gc] 91)).alloc (Cc #[Bb h.n,Bb h.sp.n,I Y h.sp.lo,I Y h.sp.hi,Bb h.t,Bb h.f,U st h.s.length hc] 91)).alloc (Cc #[Bb false,Bb false,I Y 0,I Y 0,Bb false,Bb false,U nO 0 0] 91)) (w.heap.size+1+1):=⟨λj=>aV,ah⟩;have HJ:=ae (λw=>yR g.sp h.sp w);generalize bq g.sp h.sp=J at HJ |-;exact sC
end
end Go.Proofs.YtmapdpcfanecdabGreatDoor
