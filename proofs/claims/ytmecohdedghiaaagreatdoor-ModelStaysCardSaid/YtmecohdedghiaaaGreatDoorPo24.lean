/- Plain mathematics of floats. -/
import Derived.Test.YtmecohdedghiaaaGreatDoorPo23
import Derived.Laws.BitsAllLaws
import Derived.Laws.Bits64
import Derived.Lib.TrailingZeros
import Derived.Lib.BitFns
import Ieee.Arith
import Derived.Below
import Derived.Lib.ItoaNum
set_option maxRecDepth 100000
set_option maxHeartbeats 8000000
open Go.Proofs.Tryz
namespace Go.Proofs.YtmecohdedghiaaaGreatDoor
open Go.RowKit
def Cells11 (V:World) (D:Nat) (x0 x1 x2 x3 x4 x5 x6 x7 x8 x9 x10:Value):Prop:=
 V.cell? ⟨D,0,none⟩=some x0∧V.cell? ⟨D,1,none⟩=some x1∧V.cell? ⟨D,2,none⟩=some x2∧V.cell? ⟨D,3,none⟩=some x3∧V.cell? ⟨D,4,none⟩=some x4∧V.cell? ⟨D,5,none⟩=some x5∧V.cell? ⟨D,6,none⟩=some x6∧V.cell? ⟨D,7,none⟩=some x7∧V.cell? ⟨D,8,none⟩=some x8∧V.cell? ⟨D,9,none⟩=some x9∧V.cell? ⟨D,10,none⟩=some x10∧
 V.frozen? ⟨D,0,none⟩=false∧V.frozen? ⟨D,1,none⟩=false∧V.frozen? ⟨D,2,none⟩=false∧V.frozen? ⟨D,3,none⟩=false∧V.frozen? ⟨D,4,none⟩=false∧V.frozen? ⟨D,5,none⟩=false∧V.frozen? ⟨D,6,none⟩=false∧V.frozen? ⟨D,7,none⟩=false∧V.frozen? ⟨D,8,none⟩=false∧V.frozen? ⟨D,9,none⟩=false∧V.frozen? ⟨D,10,none⟩=false∧D<V.heap.size
theorem Cells11.new (V:World) (t:TypeId) (x0 x1 x2 x3 x4 x5 x6 x7 x8 x9 x10:Value):Cells11 (V.alloc (.cells #[x0,x1,x2,x3,x4,x5,x6,x7,x8,x9,x10] t)) V.heap.size x0 x1 x2 x3 x4 x5 x6 x7 x8 x9 x10:=
 ⟨by rw[ah];rfl,by rw[ah];rfl,by rw[ah];rfl,by rw[ah];rfl,by rw[ah];rfl,by rw[ah];rfl,by rw[ah];rfl,by rw[ah];rfl,by rw[ah];rfl,by rw[ah];rfl,by rw[ah];rfl,by simp,by simp,by simp,by simp,by simp,by simp,by simp,by simp,by simp,by simp,by simp,by simp⟩
theorem Cells11.low {V V':World} {B D:Nat} {x0 x1 x2 x3 x4 x5 x6 x7 x8 x9 x10:Value} (h:Cells11 V D x0 x1 x2 x3 x4 x5 x6 x7 x8 x9 x10) (hb:Below B V V') (hD:D<B):Cells11 V' D x0 x1 x2 x3 x4 x5 x6 x7 x8 x9 x10:=by
 obtain⟨h0,h1,h2,h3,h4,h5,h6,h7,h8,h9,h10,z0,z1,z2,z3,z4,z5,z6,z7,z8,z9,z10,hs⟩:=h;exact⟨(hb.cell (p:=⟨D,0,none⟩) hD).trans h0,(hb.cell (p:=⟨D,1,none⟩) hD).trans h1,(hb.cell (p:=⟨D,2,none⟩) hD).trans h2,(hb.cell (p:=⟨D,3,none⟩) hD).trans h3,(hb.cell (p:=⟨D,4,none⟩) hD).trans h4,(hb.cell (p:=⟨D,5,none⟩) hD).trans h5,(hb.cell (p:=⟨D,6,none⟩) hD).trans h6,(hb.cell (p:=⟨D,7,none⟩) hD).trans h7,(hb.cell (p:=⟨D,8,none⟩) hD).trans h8,(hb.cell (p:=⟨D,9,none⟩) hD).trans h9,(hb.cell (p:=⟨D,10,none⟩) hD).trans h10,(hb.frozen (p:=⟨D,0,none⟩) hD).trans z0,(hb.frozen (p:=⟨D,1,none⟩) hD).trans z1,(hb.frozen (p:=⟨D,2,none⟩) hD).trans z2,(hb.frozen (p:=⟨D,3,none⟩) hD).trans z3,(hb.frozen (p:=⟨D,4,none⟩) hD).trans z4,(hb.frozen (p:=⟨D,5,none⟩) hD).trans z5,(hb.frozen (p:=⟨D,6,none⟩) hD).trans z6,(hb.frozen (p:=⟨D,7,none⟩) hD).trans z7,(hb.frozen (p:=⟨D,8,none⟩) hD).trans z8,(hb.frozen (p:=⟨D,9,none⟩) hD).trans z9,(hb.frozen (p:=⟨D,10,none⟩) hD).trans z10,nL hs hb.size⟩
theorem Cells11.below {V V':World} {D:Nat} {x0 x1 x2 x3 x4 x5 x6 x7 x8 x9 x10:Value} (h:Cells11 V D x0 x1 x2 x3 x4 x5 x6 x7 x8 x9 x10) (hb:Below V.heap.size V V'):Cells11 V' D x0 x1 x2 x3 x4 x5 x6 x7 x8 x9 x10:=h.low hb h.2.2.2.2.2.2.2.2.2.2.2.2.2.2.2.2.2.2.2.2.2.2
theorem Cells11.s0 {V:World} {D:Nat} {x0 x1 x2 x3 x4 x5 x6 x7 x8 x9 x10:Value} (h:Cells11 V D x0 x1 x2 x3 x4 x5 x6 x7 x8 x9 x10) (p:Value):Cells11 (V.setCell ⟨D,0,none⟩ p) D p x1 x2 x3 x4 x5 x6 x7 x8 x9 x10:=by
 obtain⟨h0,h1,h2,h3,h4,h5,h6,h7,h8,h9,h10,z0,z1,z2,z3,z4,z5,z6,z7,z8,z9,z10,hs⟩:=h;have ne:∀ {i j:Nat},i≠j→(⟨D,i,none⟩:Addr)≠⟨D,j,none⟩:=fun h=>aN (.inr h);exact⟨ag h0,sO h1 (ne (by decide)),sO h2 (ne (by decide)),sO h3 (ne (by decide)),sO h4 (ne (by decide)),sO h5 (ne (by decide)),sO h6 (ne (by decide)),sO h7 (ne (by decide)),sO h8 (ne (by decide)),sO h9 (ne (by decide)),sO h10 (ne (by decide)),sF z0,sF z1,sF z2,sF z3,sF z4,sF z5,sF z6,sF z7,sF z8,sF z9,sF z10,by simpa using hs⟩
theorem Cells11.s1 {V:World} {D:Nat} {x0 x1 x2 x3 x4 x5 x6 x7 x8 x9 x10:Value} (h:Cells11 V D x0 x1 x2 x3 x4 x5 x6 x7 x8 x9 x10) (p:Value):Cells11 (V.setCell ⟨D,1,none⟩ p) D x0 p x2 x3 x4 x5 x6 x7 x8 x9 x10:=by
 obtain⟨h0,h1,h2,h3,h4,h5,h6,h7,h8,h9,h10,z0,z1,z2,z3,z4,z5,z6,z7,z8,z9,z10,hs⟩:=h;have ne:∀ {i j:Nat},i≠j→(⟨D,i,none⟩:Addr)≠⟨D,j,none⟩:=fun h=>aN (.inr h);exact⟨sO h0 (ne (by decide)),ag h1,sO h2 (ne (by decide)),sO h3 (ne (by decide)),sO h4 (ne (by decide)),sO h5 (ne (by decide)),sO h6 (ne (by decide)),sO h7 (ne (by decide)),sO h8 (ne (by decide)),sO h9 (ne (by decide)),sO h10 (ne (by decide)),sF z0,sF z1,sF z2,sF z3,sF z4,sF z5,sF z6,sF z7,sF z8,sF z9,sF z10,by simpa using hs⟩
theorem Cells11.s2 {V:World} {D:Nat} {x0 x1 x2 x3 x4 x5 x6 x7 x8 x9 x10:Value} (h:Cells11 V D x0 x1 x2 x3 x4 x5 x6 x7 x8 x9 x10) (p:Value):Cells11 (V.setCell ⟨D,2,none⟩ p) D x0 x1 p x3 x4 x5 x6 x7 x8 x9 x10:=by
 obtain⟨h0,h1,h2,h3,h4,h5,h6,h7,h8,h9,h10,z0,z1,z2,z3,z4,z5,z6,z7,z8,z9,z10,hs⟩:=h;have ne:∀ {i j:Nat},i≠j→(⟨D,i,none⟩:Addr)≠⟨D,j,none⟩:=fun h=>aN (.inr h);exact⟨sO h0 (ne (by decide)),sO h1 (ne (by decide)),ag h2,sO h3 (ne (by decide)),sO h4 (ne (by decide)),sO h5 (ne (by decide)),sO h6 (ne (by decide)),sO h7 (ne (by decide)),sO h8 (ne (by decide)),sO h9 (ne (by decide)),sO h10 (ne (by decide)),sF z0,sF z1,sF z2,sF z3,sF z4,sF z5,sF z6,sF z7,sF z8,sF z9,sF z10,by simpa using hs⟩
theorem Cells11.s3 {V:World} {D:Nat} {x0 x1 x2 x3 x4 x5 x6 x7 x8 x9 x10:Value} (h:Cells11 V D x0 x1 x2 x3 x4 x5 x6 x7 x8 x9 x10) (p:Value):Cells11 (V.setCell ⟨D,3,none⟩ p) D x0 x1 x2 p x4 x5 x6 x7 x8 x9 x10:=by
 obtain⟨h0,h1,h2,h3,h4,h5,h6,h7,h8,h9,h10,z0,z1,z2,z3,z4,z5,z6,z7,z8,z9,z10,hs⟩:=h;have ne:∀ {i j:Nat},i≠j→(⟨D,i,none⟩:Addr)≠⟨D,j,none⟩:=fun h=>aN (.inr h);exact⟨sO h0 (ne (by decide)),sO h1 (ne (by decide)),sO h2 (ne (by decide)),ag h3,sO h4 (ne (by decide)),sO h5 (ne (by decide)),sO h6 (ne (by decide)),sO h7 (ne (by decide)),sO h8 (ne (by decide)),sO h9 (ne (by decide)),sO h10 (ne (by decide)),sF z0,sF z1,sF z2,sF z3,sF z4,sF z5,sF z6,sF z7,sF z8,sF z9,sF z10,by simpa using hs⟩
theorem Cells11.s4 {V:World} {D:Nat} {x0 x1 x2 x3 x4 x5 x6 x7 x8 x9 x10:Value} (h:Cells11 V D x0 x1 x2 x3 x4 x5 x6 x7 x8 x9 x10) (p:Value):Cells11 (V.setCell ⟨D,4,none⟩ p) D x0 x1 x2 x3 p x5 x6 x7 x8 x9 x10:=by
 obtain⟨h0,h1,h2,h3,h4,h5,h6,h7,h8,h9,h10,z0,z1,z2,z3,z4,z5,z6,z7,z8,z9,z10,hs⟩:=h;have ne:∀ {i j:Nat},i≠j→(⟨D,i,none⟩:Addr)≠⟨D,j,none⟩:=fun h=>aN (.inr h);exact⟨sO h0 (ne (by decide)),sO h1 (ne (by decide)),sO h2 (ne (by decide)),sO h3 (ne (by decide)),ag h4,sO h5 (ne (by decide)),sO h6 (ne (by decide)),sO h7 (ne (by decide)),sO h8 (ne (by decide)),sO h9 (ne (by decide)),sO h10 (ne (by decide)),sF z0,sF z1,sF z2,sF z3,sF z4,sF z5,sF z6,sF z7,sF z8,sF z9,sF z10,by simpa using hs⟩
theorem Cells11.s5 {V:World} {D:Nat} {x0 x1 x2 x3 x4 x5 x6 x7 x8 x9 x10:Value} (h:Cells11 V D x0 x1 x2 x3 x4 x5 x6 x7 x8 x9 x10) (p:Value):Cells11 (V.setCell ⟨D,5,none⟩ p) D x0 x1 x2 x3 x4 p x6 x7 x8 x9 x10:=by
 obtain⟨h0,h1,h2,h3,h4,h5,h6,h7,h8,h9,h10,z0,z1,z2,z3,z4,z5,z6,z7,z8,z9,z10,hs⟩:=h;have ne:∀ {i j:Nat},i≠j→(⟨D,i,none⟩:Addr)≠⟨D,j,none⟩:=fun h=>aN (.inr h);exact⟨sO h0 (ne (by decide)),sO h1 (ne (by decide)),sO h2 (ne (by decide)),sO h3 (ne (by decide)),sO h4 (ne (by decide)),ag h5,sO h6 (ne (by decide)),sO h7 (ne (by decide)),sO h8 (ne (by decide)),sO h9 (ne (by decide)),sO h10 (ne (by decide)),sF z0,sF z1,sF z2,sF z3,sF z4,sF z5,sF z6,sF z7,sF z8,sF z9,sF z10,by simpa using hs⟩
theorem Cells11.s6 {V:World} {D:Nat} {x0 x1 x2 x3 x4 x5 x6 x7 x8 x9 x10:Value} (h:Cells11 V D x0 x1 x2 x3 x4 x5 x6 x7 x8 x9 x10) (p:Value):Cells11 (V.setCell ⟨D,6,none⟩ p) D x0 x1 x2 x3 x4 x5 p x7 x8 x9 x10:=by
 obtain⟨h0,h1,h2,h3,h4,h5,h6,h7,h8,h9,h10,z0,z1,z2,z3,z4,z5,z6,z7,z8,z9,z10,hs⟩:=h;have ne:∀ {i j:Nat},i≠j→(⟨D,i,none⟩:Addr)≠⟨D,j,none⟩:=fun h=>aN (.inr h);exact⟨sO h0 (ne (by decide)),sO h1 (ne (by decide)),sO h2 (ne (by decide)),sO h3 (ne (by decide)),sO h4 (ne (by decide)),sO h5 (ne (by decide)),ag h6,sO h7 (ne (by decide)),sO h8 (ne (by decide)),sO h9 (ne (by decide)),sO h10 (ne (by decide)),sF z0,sF z1,sF z2,sF z3,sF z4,sF z5,sF z6,sF z7,sF z8,sF z9,sF z10,by simpa using hs⟩
theorem Cells11.s7 {V:World} {D:Nat} {x0 x1 x2 x3 x4 x5 x6 x7 x8 x9 x10:Value} (h:Cells11 V D x0 x1 x2 x3 x4 x5 x6 x7 x8 x9 x10) (p:Value):Cells11 (V.setCell ⟨D,7,none⟩ p) D x0 x1 x2 x3 x4 x5 x6 p x8 x9 x10:=by
 obtain⟨h0,h1,h2,h3,h4,h5,h6,h7,h8,h9,h10,z0,z1,z2,z3,z4,z5,z6,z7,z8,z9,z10,hs⟩:=h;have ne:∀ {i j:Nat},i≠j→(⟨D,i,none⟩:Addr)≠⟨D,j,none⟩:=fun h=>aN (.inr h);exact⟨sO h0 (ne (by decide)),sO h1 (ne (by decide)),sO h2 (ne (by decide)),sO h3 (ne (by decide)),sO h4 (ne (by decide)),sO h5 (ne (by decide)),sO h6 (ne (by decide)),ag h7,sO h8 (ne (by decide)),sO h9 (ne (by decide)),sO h10 (ne (by decide)),sF z0,sF z1,sF z2,sF z3,sF z4,sF z5,sF z6,sF z7,sF z8,sF z9,sF z10,by simpa using hs⟩
theorem Cells11.s8 {V:World} {D:Nat} {x0 x1 x2 x3 x4 x5 x6 x7 x8 x9 x10:Value} (h:Cells11 V D x0 x1 x2 x3 x4 x5 x6 x7 x8 x9 x10) (p:Value):Cells11 (V.setCell ⟨D,8,none⟩ p) D x0 x1 x2 x3 x4 x5 x6 x7 p x9 x10:=by
 obtain⟨h0,h1,h2,h3,h4,h5,h6,h7,h8,h9,h10,z0,z1,z2,z3,z4,z5,z6,z7,z8,z9,z10,hs⟩:=h;have ne:∀ {i j:Nat},i≠j→(⟨D,i,none⟩:Addr)≠⟨D,j,none⟩:=fun h=>aN (.inr h);exact⟨sO h0 (ne (by decide)),sO h1 (ne (by decide)),sO h2 (ne (by decide)),sO h3 (ne (by decide)),sO h4 (ne (by decide)),sO h5 (ne (by decide)),sO h6 (ne (by decide)),sO h7 (ne (by decide)),ag h8,sO h9 (ne (by decide)),sO h10 (ne (by decide)),sF z0,sF z1,sF z2,sF z3,sF z4,sF z5,sF z6,sF z7,sF z8,sF z9,sF z10,by simpa using hs⟩
theorem Cells11.s9 {V:World} {D:Nat} {x0 x1 x2 x3 x4 x5 x6 x7 x8 x9 x10:Value} (h:Cells11 V D x0 x1 x2 x3 x4 x5 x6 x7 x8 x9 x10) (p:Value):Cells11 (V.setCell ⟨D,9,none⟩ p) D x0 x1 x2 x3 x4 x5 x6 x7 x8 p x10:=by
 obtain⟨h0,h1,h2,h3,h4,h5,h6,h7,h8,h9,h10,z0,z1,z2,z3,z4,z5,z6,z7,z8,z9,z10,hs⟩:=h;have ne:∀ {i j:Nat},i≠j→(⟨D,i,none⟩:Addr)≠⟨D,j,none⟩:=fun h=>aN (.inr h);exact⟨sO h0 (ne (by decide)),sO h1 (ne (by decide)),sO h2 (ne (by decide)),sO h3 (ne (by decide)),sO h4 (ne (by decide)),sO h5 (ne (by decide)),sO h6 (ne (by decide)),sO h7 (ne (by decide)),sO h8 (ne (by decide)),ag h9,sO h10 (ne (by decide)),sF z0,sF z1,sF z2,sF z3,sF z4,sF z5,sF z6,sF z7,sF z8,sF z9,sF z10,by simpa using hs⟩
theorem Cells11.s10 {V:World} {D:Nat} {x0 x1 x2 x3 x4 x5 x6 x7 x8 x9 x10:Value} (h:Cells11 V D x0 x1 x2 x3 x4 x5 x6 x7 x8 x9 x10) (p:Value):Cells11 (V.setCell ⟨D,10,none⟩ p) D x0 x1 x2 x3 x4 x5 x6 x7 x8 x9 p:=by
 obtain⟨h0,h1,h2,h3,h4,h5,h6,h7,h8,h9,h10,z0,z1,z2,z3,z4,z5,z6,z7,z8,z9,z10,hs⟩:=h;have ne:∀ {i j:Nat},i≠j→(⟨D,i,none⟩:Addr)≠⟨D,j,none⟩:=fun h=>aN (.inr h);exact⟨sO h0 (ne (by decide)),sO h1 (ne (by decide)),sO h2 (ne (by decide)),sO h3 (ne (by decide)),sO h4 (ne (by decide)),sO h5 (ne (by decide)),sO h6 (ne (by decide)),sO h7 (ne (by decide)),sO h8 (ne (by decide)),sO h9 (ne (by decide)),ag h10,sF z0,sF z1,sF z2,sF z3,sF z4,sF z5,sF z6,sF z7,sF z8,sF z9,sF z10,by simpa using hs⟩
theorem Cells11.set {V:World} {D:Nat} {x0 x1 x2 x3 x4 x5 x6 x7 x8 x9 x10:Value} (h:Cells11 V D x0 x1 x2 x3 x4 x5 x6 x7 x8 x9 x10) (p0 p1 p2 p3 p4 p5 p6 p7 p8 p9 p10:Value):Cells11 (((((((((((V.setCell ⟨D,0,none⟩ p0).setCell ⟨D,1,none⟩ p1).setCell ⟨D,2,none⟩ p2).setCell ⟨D,3,none⟩ p3).setCell ⟨D,4,none⟩ p4).setCell ⟨D,5,none⟩ p5).setCell ⟨D,6,none⟩ p6).setCell ⟨D,7,none⟩ p7).setCell ⟨D,8,none⟩ p8).setCell ⟨D,9,none⟩ p9).setCell ⟨D,10,none⟩ p10) D p0 p1 p2 p3 p4 p5 p6 p7 p8 p9 p10:=(((((((((((h.s0 p0).s1 p1).s2 p2).s3 p3).s4 p4).s5 p5).s6 p6).s7 p7).s8 p8).s9 p9).s10 p10)
theorem Cells11.off {V:World} {D G o:Nat} {x0 x1 x2 x3 x4 x5 x6 x7 x8 x9 x10:Value} (h:Cells11 V G x0 x1 x2 x3 x4 x5 x6 x7 x8 x9 x10) (CJ:D≠G) (p:Value):Cells11 (V.setCell ⟨D,o,none⟩ p) G x0 x1 x2 x3 x4 x5 x6 x7 x8 x9 x10:=by
 obtain⟨h0,h1,h2,h3,h4,h5,h6,h7,h8,h9,h10,z0,z1,z2,z3,z4,z5,z6,z7,z8,z9,z10,hs⟩:=h;exact⟨sO h0 (aN (.inl CJ)),sO h1 (aN (.inl CJ)),sO h2 (aN (.inl CJ)),sO h3 (aN (.inl CJ)),sO h4 (aN (.inl CJ)),sO h5 (aN (.inl CJ)),sO h6 (aN (.inl CJ)),sO h7 (aN (.inl CJ)),sO h8 (aN (.inl CJ)),sO h9 (aN (.inl CJ)),sO h10 (aN (.inl CJ)),sF z0,sF z1,sF z2,sF z3,sF z4,sF z5,sF z6,sF z7,sF z8,sF z9,sF z10,by simpa using hs⟩
structure Md where
 d:Dk
 s:Stk
 oA:Option Addr
 oc:Nat
 o:List Int
abbrev Dk.ol (d:Dk):List Value:=[.slice d.bA d.bn d.bc,.slice d.pA d.pn d.pc,.slice d.rA d.rn d.rc,.int .i64 d.arms]
abbrev Dk.oa (d:Dk):Array Value:=#[.slice d.bA d.bn d.bc,.slice d.pA d.pn d.pc,.slice d.rA d.rn d.rc,.int .i64 d.arms]
abbrev Stk.ol (s:Stk):List Value:=[.slice s.cA s.cl.length s.cc,.slice s.lA s.ll.length s.lc,.slice s.tA s.tl.length s.tc,.int .i64 s.st,.int .i64 s.inn,.int .i64 s.out]
abbrev Stk.oa (s:Stk):Array Value:=#[.slice s.cA s.cl.length s.cc,.slice s.lA s.ll.length s.lc,.slice s.tA s.tl.length s.tc,.int .i64 s.st,.int .i64 s.inn,.int .i64 s.out]
abbrev Md.ol (m:Md):List Value:=[.slice m.d.bA m.d.bn m.d.bc,.slice m.d.pA m.d.pn m.d.pc,.slice m.d.rA m.d.rn m.d.rc,.int .i64 m.d.arms,.slice m.s.cA m.s.cl.length m.s.cc,.slice m.s.lA m.s.ll.length m.s.lc,.slice m.s.tA m.s.tl.length m.s.tc,.int .i64 m.s.st,.int .i64 m.s.inn,.int .i64 m.s.out,.slice m.oA m.o.length m.oc]
abbrev lh:Array Value:=#[.slice none 0 0,.slice none 0 0,.slice none 0 0,.int .i64 0]
abbrev Al:List Value:=[.slice none 0 0,.slice none 0 0,.slice none 0 0,.int .i64 0]
abbrev jo:Array Value:=#[.slice none 0 0,.slice none 0 0,.slice none 0 0,.int .i64 0,.int .i64 0,.int .i64 0]
abbrev xy:List Value:=[.slice none 0 0,.slice none 0 0,.slice none 0 0,.int .i64 0,.int .i64 0,.int .i64 0]
abbrev Cx:Array Value:=#[.slice none 0 0,.slice none 0 0,.slice none 0 0,.int .i64 0,.slice none 0 0,.slice none 0 0,.slice none 0 0,.int .i64 0,.int .i64 0,.int .i64 0,.slice none 0 0]
abbrev BU:List Value:=[.slice none 0 0,.slice none 0 0,.slice none 0 0,.int .i64 0,.slice none 0 0,.slice none 0 0,.slice none 0 0,.int .i64 0,.int .i64 0,.int .i64 0,.slice none 0 0]
abbrev eG:Array Value:=#[.int .i64 0,.int .i64 0,.int .i64 0,.int .i64 0,.slice none 0 0]
abbrev wS:List Value:=[.int .i64 0,.int .i64 0,.int .i64 0,.int .i64 0,.slice none 0 0]
abbrev Md.ob (m:Md):Array Value:=#[.slice m.d.bA m.d.bn m.d.bc,.slice m.d.pA m.d.pn m.d.pc,.slice m.d.rA m.d.rn m.d.rc,.int .i64 m.d.arms,.slice m.s.cA m.s.cl.length m.s.cc,.slice m.s.lA m.s.ll.length m.s.lc,.slice m.s.tA m.s.tl.length m.s.tc,.int .i64 m.s.st,.int .i64 m.s.inn,.int .i64 m.s.out,.slice m.oA m.o.length m.oc]
abbrev Md.v (m:Md):Value:=.agg m.ob
structure Md.In (w:World) (B:Nat) (m:Md):Prop where
 d:m.d.In w B
 s:m.s.In w B
 o:KI.IsL w B (.slice m.oA m.o.length m.oc) m.o
theorem Md.In.below {w w':World} {B:Nat} {m:Md} (h:m.In w B) (hb:Below B w w'):m.In w' B:=⟨h.d.below hb,h.s.below hb,h.o.below hb⟩
theorem Md.In.more {w:World} {B B':Nat} {m:Md} (h:m.In w B) (hB:B≤B'):m.In w B':=⟨h.d.more hB,h.s.more hB,h.o.more hB⟩
theorem Md.In.then {w w':World} {m:Md} (h:m.In w w.heap.size) (hb:Below w.heap.size w w'):m.In w' w'.heap.size:=(h.below hb).more hb.size
structure Md.Far (m:Md) (B:Nat):Prop where
 d:m.d.Far B
 s:m.s.Far B
 o:∀a,m.oA=some a→B≤a.block
theorem Md.Far.less {m:Md} {B B':Nat} (h:m.Far B) (hB:B'≤B):m.Far B':=⟨h.d.less hB,h.s.less hB,fun a ha=>Nat.le_trans hB (h.o a ha)⟩
theorem Md.In.set1 {w:World} {G B D o:Nat} {m:Md} (h:m.In w G) (hf:m.Far B) (hD:D<B) (u:Value):m.In (w.setCell ⟨D,o,none⟩ u) G:=
 ⟨h.d.set1 hf.d hD u,h.s.set1 hf.s hD u,h.o.far (fun a ha=>by have:=hf.o a ha;omega) o u⟩
theorem Md.In.set11 {w:World} {G B D:Nat} {m:Md} (h:m.In w G) (hf:m.Far B) (hD:D<B) (p0 p1 p2 p3 p4 p5 p6 p7 p8 p9 p10:Value):m.In (((((((((((w.setCell ⟨D,0,none⟩ p0).setCell ⟨D,1,none⟩ p1).setCell ⟨D,2,none⟩ p2).setCell ⟨D,3,none⟩ p3).setCell ⟨D,4,none⟩ p4).setCell ⟨D,5,none⟩ p5).setCell ⟨D,6,none⟩ p6).setCell ⟨D,7,none⟩ p7).setCell ⟨D,8,none⟩ p8).setCell ⟨D,9,none⟩ p9).setCell ⟨D,10,none⟩ p10) G:=
 ((((((((((h.set1 hf hD p0).set1 hf hD p1).set1 hf hD p2).set1 hf hD p3).set1 hf hD p4).set1 hf hD p5).set1 hf hD p6).set1 hf hD p7).set1 hf hD p8).set1 hf hD p9).set1 hf hD p10
abbrev ti (w:World) (D:Nat) (m:Md):Prop:=Cells11 w D (.slice m.d.bA m.d.bn m.d.bc) (.slice m.d.pA m.d.pn m.d.pc) (.slice m.d.rA m.d.rn m.d.rc) (.int .i64 m.d.arms) (.slice m.s.cA m.s.cl.length m.s.cc) (.slice m.s.lA m.s.ll.length m.s.lc) (.slice m.s.tA m.s.tl.length m.s.tc) (.int .i64 m.s.st) (.int .i64 m.s.inn) (.int .i64 m.s.out) (.slice m.oA m.o.length m.oc)
abbrev Cq (w:World) (D:Nat):Prop:=Cells11 w D (.slice none 0 0) (.slice none 0 0) (.slice none 0 0) (.int .i64 0) (.slice none 0 0) (.slice none 0 0) (.slice none 0 0) (.int .i64 0) (.int .i64 0) (.int .i64 0) (.slice none 0 0)
abbrev oy:Array Value:=Cx
theorem gw {B D:Nat} {w W:World} (h:Below B w W) (hD:B≤D) (p0 p1 p2 p3 p4 p5 p6 p7 p8 p9 p10:Value):Below B w (((((((((((W.setCell ⟨D,0,none⟩ p0).setCell ⟨D,1,none⟩ p1).setCell ⟨D,2,none⟩ p2).setCell ⟨D,3,none⟩ p3).setCell ⟨D,4,none⟩ p4).setCell ⟨D,5,none⟩ p5).setCell ⟨D,6,none⟩ p6).setCell ⟨D,7,none⟩ p7).setCell ⟨D,8,none⟩ p8).setCell ⟨D,9,none⟩ p9).setCell ⟨D,10,none⟩ p10):=
 h.setCell hD p0 |>.setCell hD p1 |>.setCell hD p2 |>.setCell hD p3 |>.setCell hD p4 |>.setCell hD p5 |>.setCell hD p6 |>.setCell hD p7 |>.setCell hD p8 |>.setCell hD p9 |>.setCell hD p10
structure Md.Lim (m:Md):Prop where
 b:m.d.bl.length≤100000
 p:m.d.pl.length≤100000
 r:m.d.rl.length≤100000
 st:∀q∈m.d.pl,q.st.length≤100000
 c:m.s.cl.length≤100000
 l:m.s.ll.length≤100000
 t:m.s.tl.length≤100000
 x:∀q∈m.s.ll,q.xs.length≤100000
 o:m.o.length≤100000
theorem oh (m:Md) (w:World) (hm:m.In w w.heap.size) (hl:m.Lim):Calls prog 64 #[m.v] w fun e w'=>∃t:Md,e=.returned t.v∧t.d.ab=m.d.ab∧t.s.ab=m.s.ab∧t.o=m.o∧t.In w' w'.heap.size∧Below w.heap.size w w'∧t.Far w.heap.size:=by
 obtain⟨w0,hw0⟩:∃w0,w0=(w.alloc (.cells m.ob 43)).alloc (.cells oy 43):=⟨_,rfl⟩;have CG:=aH (gj hw0);have EJ:=aH (hm.then CG.out);have D7:=aH (show w0.heap.size=w.heap.size+2 by rw[hw0];simp);have DE:=aH (show ti w0 w.heap.size m by rw[hw0];exact(Cells11.new w _ _ _ _ _ _ _ _ _ _ _ _).below (bL (bR _ _) _));have GJ:=aH (show Cq w0 (w.heap.size+1)by
  have e:(w.alloc (.cells m.ob 43)).heap.size=w.heap.size+1:=by simp
  rw[hw0,←e];exact Cells11.new _ _ _ _ _ _ _ _ _ _ _ _ _)
 have DM:=aH (fun V (h:Below w0.heap.size w0 V)=>d7 m.d V (EJ.out.d.then h) hl.b hl.p hl.r hl.st);have TC:=aH (fun V (h:Below w0.heap.size w0 V)=>gG m.s V (EJ.out.s.then h) hl.c hl.l hl.t hl.x);have Pd:=aH (fun V (h:Below w0.heap.size w0 V)=>(kF (.slice m.oA m.o.length m.oc) m.o V (EJ.out.o.then h) hl.o).mono (R':=fun e w'=>∃v,e=.returned v∧KI.IsL w' w'.heap.size v m.o∧Below V.heap.size V w'∧∀b,v.ownBlock=some b→V.heap.size≤b) fun e w' ⟨v,h1,h2,h3⟩=>⟨v,h1,h2.isL (by have:=hl.o;omega),h3,fun b hb=>(h2.lt b hb).1⟩);clear hm hl;go_enter func64,ntmps64
 go_upto_region 1 with fail
 try rw[←hw0]
 obtain⟨g0,g1,g2,g3,g4,g5,g6,g7,g8,g9,g10,-⟩:=DE.out;clear hw0;refine ju ⟨g0,g1,g2,g3,g4,g5,g6,g7,g8,g9,g10⟩ (by kernel_rfl) (fun CC=>?_);have CQ:=aH (show Below w0.heap.size w0 w0.drew from aa (bR _ _) 1);clear g0 g1 g2 g3 g4 g5 g6 g7 g8 g9 g10;generalize w0.drew=wv at *;refine wk [.k 0 3,.k 1 4,.k 3 6,.k 4 7,.k 6 9,.k 7 10] (fun _ _ _ _ _ h=>h) CC ?_ (by kernel_rfl);repeat (refine .k (v:=?_) rfl (by kernel_rfl) ?_ ?_;rotate_left 1;(intro w h;go_simp<;>try rfl);try simp only[sp])
 refine .nil ?_;refine wQ 2 (some 5) rfl (fun K hK=>?_) (by kernel_rfl);go_simp;(with_reducible refine(DM.out _ CQ.out).mono ?_);rintro e wv ⟨td,rfl,hta,htd,hb,hfd⟩;obtain⟨s0,s1,s2,s3,s4,s5,s6,s7,s8,s9,s10⟩:=CC;have G0:=aH CQ.out.size;have CQ:=aH (bC CQ.out hb);have FH:=aH hta;have I5:=aH htd;have MG:=aH (show td.Far w0.heap.size from hfd.less G0.out);replace s0:=kK hb s0;replace s1:=kK hb s1;replace s2:=kK hb s2;replace s3:=kK hb s3;replace s4:=kK hb s4;replace s5:=kK hb s5;replace s6:=kK hb s6;replace s7:=kK hb s7;replace s8:=kK hb s8;replace s9:=kK hb s9;replace s10:=kK hb s10;clear hb hta htd G0 hfd;go_wp2_with fail;refine hK.out _ _ ⟨s0,s1,s2,s3,s4,s5,s6,s7,s8,s9,s10⟩ (fun CC=>?_);clear hK K s0 s1 s2 s3 s4 s5 s6 s7 s8 s9 s10;try simp only[sp]
 refine wQ 5 (some 8) rfl (fun K hK=>?_) (by kernel_rfl);go_simp;(with_reducible refine(TC.out _ CQ.out).mono ?_);rintro e wv ⟨ts,rfl,hsa,hts,hb,Gx⟩;obtain⟨s0,s1,s2,s3,s4,s5,s6,s7,s8,s9,s10⟩:=CC;have G0:=aH CQ.out.size;have CQ:=aH (bC CQ.out hb);have I5:=aH (I5.out.then hb);have Jd:=aH hsa;have Qp:=aH hts;have FA:=aH (show ts.Far w0.heap.size from Gx.less G0.out);replace s0:=kK hb s0;replace s1:=kK hb s1;replace s2:=kK hb s2;replace s3:=kK hb s3;replace s4:=kK hb s4;replace s5:=kK hb s5;replace s6:=kK hb s6;replace s7:=kK hb s7;replace s8:=kK hb s8;replace s9:=kK hb s9;replace s10:=kK hb s10;clear hb hsa hts G0 Gx;go_wp2_with fail;refine hK.out _ _ ⟨s0,s1,s2,s3,s4,s5,s6,s7,s8,s9,s10⟩ (fun CC=>?_);clear hK K s0 s1 s2 s3 s4 s5 s6 s7 s8 s9 s10;try simp only[sp]
 refine wQ 8 (some 11) rfl (fun K hK=>?_) (by kernel_rfl);go_simp;(with_reducible refine(Pd.out _ CQ.out).mono ?_);rintro e wv ⟨vo,rfl,ho,hb,hfo⟩;obtain⟨s0,s1,s2,s3,s4,s5,s6,s7,s8,s9,s10⟩:=CC;have G0:=aH CQ.out.size;have CQ:=aH (bC CQ.out hb);have I5:=aH (I5.out.then hb);have Qp:=aH (Qp.out.then hb);have Iu:=aH ho;have TS:=aH (fun b hb=>Nat.le_trans G0.out (hfo b hb));replace s0:=kK hb s0;replace s1:=kK hb s1;replace s2:=kK hb s2;replace s3:=kK hb s3;replace s4:=kK hb s4;replace s5:=kK hb s5;replace s6:=kK hb s6;replace s7:=kK hb s7;replace s8:=kK hb s8;replace s9:=kK hb s9;replace s10:=kK hb s10;clear hb ho G0 hfo;go_wp2_with fail;refine hK.out _ _ ⟨s0,s1,s2,s3,s4,s5,s6,s7,s8,s9,s10⟩ (fun CC=>?_);clear hK K s0 s1 s2 s3 s4 s5 s6 s7 s8 s9 s10;try simp only[sp]
 obtain⟨tA,tc,rfl,-⟩:=Iu.out.shape;have QZ:=aH (fun a (ha:tA=some a)=>TS.out a.block (ax (by rw[ha];rfl)));refine wk [.k 9 12] (fun _ _ _ _ _ h=>h) CC ?_ (by kernel_rfl);repeat (refine .k (v:=?_) rfl (by kernel_rfl) ?_ ?_;rotate_left 1;(intro w h;go_simp<;>try rfl);try simp only[sp])
 refine .nil ?_;refine wQ 10 none rfl (fun K hK=>?_) (by kernel_rfl);have HZ:=aH (GJ.out.low CQ.out (by have:=D7.out;omega));obtain⟨y0,y1,y2,y3,y4,y5,y6,y7,y8,y9,y10,z0,z1,z2,z3,z4,z5,z6,z7,z8,z9,z10,-⟩:=HZ.out;go_simp;clear y0 y1 y2 y3 y4 y5 y6 y7 y8 y9 y10 z0 z1 z2 z3 z4 z5 z6 z7 z8 z9 z10;have Ik:=gw (bR (w.heap.size+1) wv) (D:=w.heap.size+1) (nR _) (.slice td.bA td.bn td.bc) (.slice td.pA td.pn td.pc) (.slice td.rA td.rn td.rc) (.int .i64 td.arms) (.slice ts.cA ts.cl.length ts.cc) (.slice ts.lA ts.ll.length ts.lc) (.slice ts.tA ts.tl.length ts.tc) (.int .i64 ts.st) (.int .i64 ts.inn) (.int .i64 ts.out) (.slice tA m.o.length tc);have HW:=aH (HZ.out.set (.slice td.bA td.bn td.bc) (.slice td.pA td.pn td.pc) (.slice td.rA td.rn td.rc) (.int .i64 td.arms) (.slice ts.cA ts.cl.length ts.cc) (.slice ts.lA ts.ll.length ts.lc) (.slice ts.tA ts.tl.length ts.tc) (.int .i64 ts.st) (.int .i64 ts.inn) (.int .i64 ts.out) (.slice tA m.o.length tc));have FM:=aH (gw (D:=w.heap.size+1) (CG.out.trans (CQ.out.mono CG.out.size)) (Nat.le_succ _) (.slice td.bA td.bn td.bc) (.slice td.pA td.pn td.pc) (.slice td.rA td.rn td.rc) (.int .i64 td.arms) (.slice ts.cA ts.cl.length ts.cc) (.slice ts.lA ts.ll.length ts.lc) (.slice ts.tA ts.tl.length ts.tc) (.int .i64 ts.st) (.int .i64 ts.inn) (.int .i64 ts.out) (.slice tA m.o.length tc));have NR:=aH (show w.heap.size+1<w0.heap.size by have:=D7.out;omega)
 have Hg:=aH (Md.In.set11 (m:=⟨td,ts,tA,tc,m.o⟩) (G:=wv.heap.size) (B:=w0.heap.size) ⟨I5.out,Qp.out,Iu.out⟩ ⟨MG.out,FA.out,fun a ha=>QZ.out a ha⟩ NR.out (.slice td.bA td.bn td.bc) (.slice td.pA td.pn td.pc) (.slice td.rA td.rn td.rc) (.int .i64 td.arms) (.slice ts.cA ts.cl.length ts.cc) (.slice ts.lA ts.ll.length ts.lc) (.slice ts.tA ts.tl.length ts.tc) (.int .i64 ts.st) (.int .i64 ts.inn) (.int .i64 ts.out) (.slice tA m.o.length tc));obtain⟨s0,s1,s2,s3,s4,s5,s6,s7,s8,s9,s10⟩:=CC;have D8:(((((((((((wv.setCell ⟨w.heap.size+1,0,none⟩ (.slice td.bA td.bn td.bc)).setCell ⟨w.heap.size+1,1,none⟩ (.slice td.pA td.pn td.pc)).setCell ⟨w.heap.size+1,2,none⟩ (.slice td.rA td.rn td.rc)).setCell ⟨w.heap.size+1,3,none⟩ (.int .i64 td.arms)).setCell ⟨w.heap.size+1,4,none⟩ (.slice ts.cA ts.cl.length ts.cc)).setCell ⟨w.heap.size+1,5,none⟩ (.slice ts.lA ts.ll.length ts.lc)).setCell ⟨w.heap.size+1,6,none⟩ (.slice ts.tA ts.tl.length ts.tc)).setCell ⟨w.heap.size+1,7,none⟩ (.int .i64 ts.st)).setCell ⟨w.heap.size+1,8,none⟩ (.int .i64 ts.inn)).setCell ⟨w.heap.size+1,9,none⟩ (.int .i64 ts.out)).setCell ⟨w.heap.size+1,10,none⟩ (.slice tA m.o.length tc)).heap.size=wv.heap.size:=by simp
 have Ov:=aH (show Md.In _ _ _ by have h:=Hg.out;rw[←D8]at h;exact h);clear D8 Hg;refine hK.out _ _ ⟨(Ik.cell (p:=⟨w.heap.size,0,none⟩) (Nat.lt_succ_self _)).trans s0,(Ik.cell (p:=⟨w.heap.size,1,none⟩) (Nat.lt_succ_self _)).trans s1,(Ik.cell (p:=⟨w.heap.size,2,none⟩) (Nat.lt_succ_self _)).trans s2,(Ik.cell (p:=⟨w.heap.size,3,none⟩) (Nat.lt_succ_self _)).trans s3,(Ik.cell (p:=⟨w.heap.size,4,none⟩) (Nat.lt_succ_self _)).trans s4,(Ik.cell (p:=⟨w.heap.size,5,none⟩) (Nat.lt_succ_self _)).trans s5,(Ik.cell (p:=⟨w.heap.size,6,none⟩) (Nat.lt_succ_self _)).trans s6,(Ik.cell (p:=⟨w.heap.size,7,none⟩) (Nat.lt_succ_self _)).trans s7,(Ik.cell (p:=⟨w.heap.size,8,none⟩) (Nat.lt_succ_self _)).trans s8,(Ik.cell (p:=⟨w.heap.size,9,none⟩) (Nat.lt_succ_self _)).trans s9,(Ik.cell (p:=⟨w.heap.size,10,none⟩) (Nat.lt_succ_self _)).trans s10⟩ (fun CC=>?_);clear hK K Ik CC s0 s1 s2 s3 s4 s5 s6 s7 s8 s9 s10;try simp only[sp]
 refine wD (by kernel_rfl) ?_;go_wp2;obtain⟨q0,q1,q2,q3,q4,q5,q6,q7,q8,q9,q10,-⟩:=HW.out;refine bP (v:=.agg #[.slice td.bA td.bn td.bc,.slice td.pA td.pn td.pc,.slice td.rA td.rn td.rc,.int .i64 td.arms,.slice ts.cA ts.cl.length ts.cc,.slice ts.lA ts.ll.length ts.lc,.slice ts.tA ts.tl.length ts.tc,.int .i64 ts.st,.int .i64 ts.inn,.int .i64 ts.out,.slice tA m.o.length tc]) ?_ rfl ?_
 ·simp[results,results64,go_sem,q0,q1,q2,q3,q4,q5,q6,q7,q8,q9,q10]
 ·exact⟨⟨td,ts,tA,tc,m.o⟩,rfl,FH.out,Jd.out,rfl,Ov.out,FM.out,⟨MG.out.less CG.out.size,FA.out.less CG.out.size,fun a ha=>Nat.le_trans CG.out.size (QZ.out a ha)⟩⟩
end Go.Proofs.YtmecohdedghiaaaGreatDoor
namespace Go.Proofs.YtmecohdedghiaaaGreatDoor.Nn
def bJ (b:Nat):Int:=
 if b/4503599627370496%2048=2047 then(if b%4503599627370496=0 then 2 else 1)
 else if b/4503599627370496%2048=0 then(if b%4503599627370496=0 then 3 else 4)else 5
def oZ (b:Nat):Bool:=decide (9223372036854775808≤b)&&bJ b != 1
theorem mi (b:Nat) (h:b<18446744073709551616):bits .andNot .u64 (b:Int) 9223372036854775808=((b%9223372036854775808:Nat):Int):=by
 have e:=u64_andNot_nat b 9223372036854775808 h (by omega);have e2:b&&& (18446744073709551615-9223372036854775808)=b%9223372036854775808:=Nat.and_two_pow_sub_one_eq_mod b 63;rw[e2]at e;exact e
theorem lJ (b:Nat) (h:b<18446744073709551616):bits .and .u64 (b:Int) 4503599627370495=((b%4503599627370496:Nat):Int):=by
 have e:=u64_and_nat b 4503599627370495 h (by omega);have e2:b&&& 4503599627370495=b%4503599627370496:=Nat.and_two_pow_sub_one_eq_mod b 52;rw[e2]at e;exact e
theorem vE (b:Nat) (h:b<18446744073709551616):bits .and .u64 (b:Int) 2047=((b%2048:Nat):Int):=by
 have e:=u64_and_nat b 2047 h (by omega);have e2:b&&& 2047=b%2048:=Nat.and_two_pow_sub_one_eq_mod b 11;rw[e2]at e;exact e
theorem rj (b:Nat) (h:b<4503599627370496):bits .or .u64 (b:Int) 4503599627370496=((b+4503599627370496:Nat):Int):=by
 have e:=u64_or_nat b 4503599627370496 (by omega) (by omega);have e2:4503599627370496|||b=4503599627370496+b:=nat_join 52 4503599627370496 b (by decide) h
 rw[Nat.or_comm,e2,Nat.add_comm]at e;exact e
theorem fK (b:Nat):1≤bJ b∧bJ b≤5:=by unfold bJ;(repeat' split)<;>omega
theorem ye (b:Nat):bJ b=1↔9218868437227405312<b%9223372036854775808:=by
 unfold bJ;(repeat' split)<;>omega
theorem yD (b:Nat):bJ b=2↔b%9223372036854775808=9218868437227405312:=by
 unfold bJ;(repeat' split)<;>omega
theorem yt (b:Nat):bJ b=3↔b%9223372036854775808=0:=by
 unfold bJ;(repeat' split)<;>omega
theorem sU (b:Nat):bJ b=4↔0<b%9223372036854775808∧b%9223372036854775808≤4503599627370495:=by
 unfold bJ;(repeat' split)<;>omega
theorem rM (b:Nat):bJ b=5↔4503599627370495<b%9223372036854775808∧b%9223372036854775808<9218868437227405312:=by
 unfold bJ;(repeat' split)<;>omega
theorem aS {a b:Int} (h:a=b):Ending.returned (.int .i64 a)=.returned (.int .i64 b):=by rw[h]
theorem aj {a b:Bool} (h:a=b):Ending.returned (.bool a)=.returned (.bool b):=by rw[h]
theorem gz:∀(f k m:Nat),m%2=1→k<f→Lib.ctzFrom f (m*2^k)=k
 |0,k,m,_,h=>by omega
 |f+1,0,m,hm,_=>by simp[Lib.ctzFrom,hm]
 |f+1,k+1,m,hm,h=>by
  have e:m*2^(k+1)=2*(m*2^k):=by rw[Nat.pow_succ,Nat.mul_comm (2^k) 2,Nat.mul_left_comm]
  unfold Lib.ctzFrom;rw[e,if_neg (by omega),Nat.mul_div_cancel_left _ (by decide),gz f k m hm (by omega)];omega
theorem wX (k m:Nat) (hm:m%2=1) (hk:k<64):Lib.ctz 64 (m*2^k)=k:=by
 have h0:m*2^k≠0:=by
  have:=Nat.two_pow_pos k;have h1:0<m*2^k:=Nat.mul_pos (by omega) this;omega
 unfold Lib.ctz;rw[if_neg h0];exact gz 64 k m hm hk
def eH (b:Nat):Nat:=if bJ b=5 then b%4503599627370496+4503599627370496 else b%4503599627370496
def rF (b:Nat):Int:=if bJ b=5 then(b:Int)/4503599627370496%2048-1075 else -1074
def kn (b:Nat):Nat:=Lib.ctz 64 (eH b)
def jM (b:Nat):Nat:=eH b/2^kn b
def pm (b:Nat):Int:=if bJ b<4 then 0 else if oZ b then -(jM b:Int)else jM b
def pe (b:Nat):Int:=if bJ b<4 then 0 else rF b+kn b
theorem fF (b:Nat) (h:4≤bJ b):0<eH b∧eH b<9007199254740992:=by
 unfold eH
 split
 ·omega
 ·have:bJ b=4:=by have:=fK b;omega
  rw[sU]at this;omega
theorem sM (b:Nat): -1074≤rF b∧rF b≤971:=by
 unfold rF
 split
 ·rename_i h
  rw[rM]at h;omega
 ·omega
theorem eh (b:Nat) (h:4≤bJ b):eH b=jM b*2^kn b∧jM b%2=1∧kn b≤52∧0<jM b∧jM b<9007199254740992:=by
 obtain⟨h0,h1⟩:=fF b h;obtain⟨m,hm,_⟩:=Lib.ctzFrom_spec 64 (eH b) h0 (by omega);have e:kn b=Lib.ctzFrom 64 (eH b):=by unfold kn Lib.ctz;rw[if_neg (by omega)]
 rw[←e]at hm;have e2:jM b=2*m+1:=by unfold jM;rw[hm,Nat.mul_comm,Nat.mul_div_cancel _ (Nat.two_pow_pos _)]
 have e3:eH b=jM b*2^kn b:=by rw[e2,hm,Nat.mul_comm]
 have FO:2^kn b≤eH b:=by rw[e3];exact Nat.le_mul_of_pos_left _ (by omega)
 have CI:kn b<53:=by
  apply Nat.lt_of_not_le;intro hh;have:2^53≤2^kn b:=Nat.pow_le_pow_right (by decide) hh;omega
 have h4:jM b≤eH b:=by rw[e3];exact Nat.le_mul_of_pos_right _ (Nat.two_pow_pos _)
 exact⟨e3,by omega,by omega,by omega,by omega⟩
theorem zO (b k m:Nat) (h:4≤bJ b) (e:eH b=m*2^k) (hm:m%2=1):kn b=k∧jM b=m:=by
 obtain⟨_,h1⟩:=fF b h;have hk:k<64:=by
  apply Nat.lt_of_not_le;intro hh;have:2^64≤2^k:=Nat.pow_le_pow_right (by decide) hh;have h3:2^k≤m*2^k:=Nat.le_mul_of_pos_left _ (by omega);omega
 have e1:kn b=k:=by unfold kn;rw[e];exact wX k m hm hk
 refine⟨e1,?_⟩;unfold jM;rw[e1,e,Nat.mul_div_cancel _ (Nat.two_pow_pos _)]
theorem ej (M k m:Nat) (h0:0<M) (hM:M<9007199254740992) (e:M=m*2^k) (hm:m%2=0):M=m/2*2^(k+1)∧k+1≤52∧m/2<m:=by
 have Uh:m≠0:=by intro h;subst h;simp at e;omega
 have e2:m=2*(m/2):=by omega
 have e3:M=m/2*2^(k+1):=by rw[Nat.pow_succ,Nat.mul_comm (2^k) 2,Nat.mul_left_comm,←Nat.mul_assoc,←e2];exact e
 refine⟨e3,?_,by omega⟩;apply Nat.le_of_not_lt;intro hh;have:2^53≤2^(k+1):=Nat.pow_le_pow_right (by decide) (by omega);have h3:2^(k+1)≤m/2*2^(k+1):=Nat.le_mul_of_pos_left _ (by omega);omega
def wh (q r hf:Nat):Nat:=if hf<r∨(r=hf∧q%2=1)then q+1 else q
def zC (n k:Nat):Nat:=wh (n/2^k) (n%2^k) (2^(k-1))
def pC (n:Nat) (e:Int):Int:=max (e+Lib.bitLen n-53) (-1074)
def kept (n:Nat) (e:Int):Nat:=if pC n e≤e then n*2^(e-pC n e).toNat else zC n (pC n e-e).toNat
def AV:Nat:=9218868437227405312
def zT (n:Nat) (e:Int):Nat:=
 if n=0∨e< -1138 then 0 else if 1023<e then AV else min ((pC n e+1074).toNat*4503599627370496+kept n e) AV
theorem cw {a b:Nat} (h:a≤b):2^a≤2^b:=Nat.pow_le_pow_right (by decide) h
def gL (p:Nat) (e:Int):Nat:=
 if e< -63 then 0 else if e<0 then zC p (-e).toNat else if 1099511627776/2^e.toNat<p then 1099511627777 else p*2^e.toNat
def ip (b:Nat):Nat:=gL (jM b*1000) (pe b)
def ofE (b:Nat):Int:=
 if bJ b=1 then 20 else if bJ b=2 then 21 else if bJ b=3 then 0 else if oZ b=true then 22 else if 1099511627776<ip b then 4 else 0
def ofV (b:Nat):Nat:=if 4≤bJ b∧ofE b=0 then ip b else 0
theorem yS (p k:Nat):1099511627776/2^k<p↔1099511627776<p*2^k:=by
 rw[Nat.div_lt_iff_lt_mul (Nat.two_pow_pos _)]
theorem zJ (p:Nat) (hp:p<9223372036854775808):zC p 64=0:=by
 unfold zC wh;have h1:p/2^64=0:=by omega
 have h2:p%2^64=p:=by omega
 have h3:2^(64-1)=9223372036854775808:=rfl;rw[h1,h2,h3,if_neg (by omega)]
theorem uD (p:Nat) (e:Int) (h:e<0) (h1: -64≤e) (hp:p<9223372036854775808):zC p (-e).toNat=gL p e:=by
 unfold gL;by_cases hh:e< -63
 ·obtain rfl:e= -64:=by omega
  rw[if_pos hh];exact zJ p hp
 ·rw[if_neg hh,if_pos h]
end Go.Proofs.YtmecohdedghiaaaGreatDoor.Nn
