import Derived.Test.YtnfejdfjlnpldaaGreatDoorTp12N
import Derived.Test.YtnfejdfjlnpldaaGreatDoorAp06
import Derived.Test.YtnfejdfjlnpldaaGreatDoorRegInw
namespace Go.Proofs.YtnfejdfjlnpldaaGreatDoor
open Go.RowKit
def OwR (n0:Nat) (W:World) (v:Value) (ys:List Int):Prop:=W.ownsRow n0 5 1 v ys.length (ys.map (Value.int .u8))
theorem OwR.below {n0:Nat} {W W':World} {v:Value} {ys:List Int} (h:OwR n0 W v ys) (hb:Below W.heap.size W W'):OwR n0 W' v ys:=ownR_below h hb
theorem OwR.lt {n0:Nat} {W:World} {v:Value} {ys:List Int} (h:OwR n0 W v ys):∀ g,v.ownBlock=some g→g < W.heap.size:=by
 intro k hk
 rcases h.2 with ⟨rfl,_⟩ | ⟨g,cap,cur,rfl,_,hg,_⟩
 · cases hk
 · cases hk
   exact (Array.getElem?_eq_some_iff.1 hg).1
theorem OwR.kept {n0:Nat} {W W':World} {v:Value} {ys:List Int} {row:Option Nat} (h:OwR n0 W v ys) (hg:W.grownBy W' row) (ha:Apart v.ownBlock row):OwR n0 W' v ys:=World.ownsRow.kept h hg ha.ne
structure Key11 (n0:Nat) (Z KD:List Value) (D:Nat→Prop) (us:Nat→Value) (W:World) (b:Nat):Prop where
 lo:n0≤b
 lt:b < W.heap.size
 st:D 15→Box W b KD
 z:¬ D 15→Box W b Z
 a1:D 1→¬ D 9→Apart (us 1).ownBlock (some b)
 a2:D 2→¬ D 5→Apart (us 2).ownBlock (some b)
 a5:D 5→¬ D 8→Apart (us 5).ownBlock (some b)
 a8:D 8→¬ D 9→Apart (us 8).ownBlock (some b)
theorem Key11.below {n0:Nat} {Z KD:List Value} {D:Nat→Prop} {us:Nat→Value} {W W':World} {b:Nat} (h:Key11 n0 Z KD D us W b) (hb:Below W.heap.size W W'):Key11 n0 Z KD D us W' b :=
 ⟨h.lo,Nat.lt_of_lt_of_le h.lt hb.size,fun d=>(h.st d).below hb,fun d=>(h.z d).below hb,h.a1,h.a2,h.a5,h.a8⟩
structure St11 (n0 sb:Nat) (p4 p7 bv:Value) (T4 E4:List Int) (Z KD:List Value) (D:Nat→Prop) (us:Nat→Value) (W:World):Prop where
 c5:D 5→D 2
 c8:D 8→D 5
 c9:D 9→D 8∧D 1
 c15:D 15→D 14
 s0:D 0→us 0=.slice (some ⟨sb,0,none⟩) 32 32
 m3:D 3→us 3=bv
 q4:D 4→us 4=p4
 m6:D 6→us 6=bv
 q7:D 7→us 7=p7
 k10:D 10→us 10=.tuple #[.agg KD.toArray,.bool true]
 k11:D 11→us 11=.tuple #[.agg KD.toArray,.bool true]
 k12:D 12→us 12=.agg KD.toArray
 k13:D 13→us 13=.bool true
 k16:D 16→us 16=.bool true
 a:D 1→¬ D 9→OwR n0 W (us 1) [107]
 b2:D 2→¬ D 5→OwR n0 W (us 2) []∧(D 1→¬ D 9→Apart (us 1).ownBlock (us 2).ownBlock)
 b5:D 5→¬ D 8→OwR n0 W (us 5) ([] ++ T4)∧(D 1→¬ D 9→Apart (us 1).ownBlock (us 5).ownBlock)
 b8:D 8→¬ D 9→OwR n0 W (us 8) (([] ++ T4) ++ E4)∧(D 1→¬ D 9→Apart (us 1).ownBlock (us 8).ownBlock)
 k9:D 9→¬ D 10→IsL W .u8 (us 9) ([107] ++ (([] ++ T4) ++ E4))
 x:D 14→∃ b,us 14=.pointer (some ⟨b,0,none⟩)∧Key11 n0 Z KD D us W b
section
variable {n0 sb:Nat} {p4 p7 bv:Value} {T4 E4:List Int} {Z KD:List Value} {D:Nat→Prop} {us:Nat→Value} {W W':World}
theorem St11.below (h:St11 n0 sb p4 p7 bv T4 E4 Z KD D us W) (hb:Below W.heap.size W W'):St11 n0 sb p4 p7 bv T4 E4 Z KD D us W' :=
 ⟨h.c5,h.c8,h.c9,h.c15,h.s0,h.m3,h.q4,h.m6,h.q7,h.k10,h.k11,h.k12,h.k13,h.k16,fun d e=>(h.a d e).below hb,fun d e=>⟨(h.b2 d e).1.below hb,(h.b2 d e).2⟩,fun d e=>⟨(h.b5 d e).1.below hb,(h.b5 d e).2⟩,fun d e=>⟨(h.b8 d e).1.below hb,(h.b8 d e).2⟩,fun d e=>(h.k9 d e).below hb,
   fun d=>let ⟨b,e,k⟩:=h.x d;⟨b,e,k.below hb⟩⟩
theorem St11.start:St11 n0 sb p4 p7 bv T4 E4 Z KD (fun _=>False) us W :=
 ⟨fun h=>h,fun h=>h,fun h=>h.elim,fun h=>h,fun h=>h.elim,fun h=>h.elim,fun h=>h.elim,fun h=>h.elim,fun h=>h.elim,fun h=>h.elim,fun h=>h.elim,fun h=>h.elim,fun h=>h.elim,fun h=>h.elim,fun h=>h.elim,fun h=>h.elim,fun h=>h.elim,fun h=>h.elim,fun h=>h.elim,fun h=>h.elim⟩
end
section
variable {n0 sb:Nat} {p4 p7 bv:Value} {T4 E4:List Int} {Z KD:List Value} {D:Nat→Prop} {us:Nat→Value} {W W':World}
theorem St11.t0 {v:Value} (h0:St11 n0 sb p4 p7 bv T4 E4 Z KD D us W) (hv:v=.slice (some ⟨sb,0,none⟩) 32 32):St11 n0 sb p4 p7 bv T4 E4 Z KD (fun j=>D j∨j=0) (fun k=>if k=0 then v else us k) W:=by
 exact ⟨fun h=>Or.inl (h0.c5 (h.resolve_right (by decide))),
   fun h=>Or.inl (h0.c8 (h.resolve_right (by decide))),
   fun h=>⟨Or.inl (h0.c9 (h.resolve_right (by decide))).1,Or.inl (h0.c9 (h.resolve_right (by decide))).2⟩,
   fun h=>Or.inl (h0.c15 (h.resolve_right (by decide))),
   fun _=>hv,
   fun h=>h0.m3 (h.resolve_right (by decide)),
   fun h=>h0.q4 (h.resolve_right (by decide)),
   fun h=>h0.m6 (h.resolve_right (by decide)),
   fun h=>h0.q7 (h.resolve_right (by decide)),
   fun h=>h0.k10 (h.resolve_right (by decide)),
   fun h=>h0.k11 (h.resolve_right (by decide)),
   fun h=>h0.k12 (h.resolve_right (by decide)),
   fun h=>h0.k13 (h.resolve_right (by decide)),
   fun h=>h0.k16 (h.resolve_right (by decide)),
   fun h h9=>h0.a (h.resolve_right (by decide)) (fun q=>h9 (Or.inl q)),
   fun h hx=>⟨(h0.b2 (h.resolve_right (by decide)) (fun q=>hx (Or.inl q))).1,fun h1 h9=>(h0.b2 (h.resolve_right (by decide)) (fun q=>hx (Or.inl q))).2 (h1.resolve_right (by decide)) (fun q=>h9 (Or.inl q))⟩,
   fun h hx=>⟨(h0.b5 (h.resolve_right (by decide)) (fun q=>hx (Or.inl q))).1,fun h1 h9=>(h0.b5 (h.resolve_right (by decide)) (fun q=>hx (Or.inl q))).2 (h1.resolve_right (by decide)) (fun q=>h9 (Or.inl q))⟩,
   fun h hx=>⟨(h0.b8 (h.resolve_right (by decide)) (fun q=>hx (Or.inl q))).1,fun h1 h9=>(h0.b8 (h.resolve_right (by decide)) (fun q=>hx (Or.inl q))).2 (h1.resolve_right (by decide)) (fun q=>h9 (Or.inl q))⟩,
   fun h hx=>h0.k9 (h.resolve_right (by decide)) (fun q=>hx (Or.inl q)),
   fun h=>let ⟨b,e,k⟩:=h0.x (h.resolve_right (by decide));⟨b,e,⟨k.lo,k.lt,fun h'=>k.st (h'.resolve_right (by decide)),fun hx=>k.z (fun q=>hx (Or.inl q)),fun h' hx=>k.a1 (h'.resolve_right (by decide)) (fun q=>hx (Or.inl q)),fun h' hx=>k.a2 (h'.resolve_right (by decide)) (fun q=>hx (Or.inl q)),fun h' hx=>k.a5 (h'.resolve_right (by decide)) (fun q=>hx (Or.inl q)),fun h' hx=>k.a8 (h'.resolve_right (by decide)) (fun q=>hx (Or.inl q))⟩⟩⟩
theorem St11.t3 {v:Value} (h0:St11 n0 sb p4 p7 bv T4 E4 Z KD D us W) (hv:v=bv):St11 n0 sb p4 p7 bv T4 E4 Z KD (fun j=>D j∨j=3) (fun k=>if k=3 then v else us k) W:=by
 exact ⟨fun h=>Or.inl (h0.c5 (h.resolve_right (by decide))),
   fun h=>Or.inl (h0.c8 (h.resolve_right (by decide))),
   fun h=>⟨Or.inl (h0.c9 (h.resolve_right (by decide))).1,Or.inl (h0.c9 (h.resolve_right (by decide))).2⟩,
   fun h=>Or.inl (h0.c15 (h.resolve_right (by decide))),
   fun h=>h0.s0 (h.resolve_right (by decide)),
   fun _=>hv,
   fun h=>h0.q4 (h.resolve_right (by decide)),
   fun h=>h0.m6 (h.resolve_right (by decide)),
   fun h=>h0.q7 (h.resolve_right (by decide)),
   fun h=>h0.k10 (h.resolve_right (by decide)),
   fun h=>h0.k11 (h.resolve_right (by decide)),
   fun h=>h0.k12 (h.resolve_right (by decide)),
   fun h=>h0.k13 (h.resolve_right (by decide)),
   fun h=>h0.k16 (h.resolve_right (by decide)),
   fun h h9=>h0.a (h.resolve_right (by decide)) (fun q=>h9 (Or.inl q)),
   fun h hx=>⟨(h0.b2 (h.resolve_right (by decide)) (fun q=>hx (Or.inl q))).1,fun h1 h9=>(h0.b2 (h.resolve_right (by decide)) (fun q=>hx (Or.inl q))).2 (h1.resolve_right (by decide)) (fun q=>h9 (Or.inl q))⟩,
   fun h hx=>⟨(h0.b5 (h.resolve_right (by decide)) (fun q=>hx (Or.inl q))).1,fun h1 h9=>(h0.b5 (h.resolve_right (by decide)) (fun q=>hx (Or.inl q))).2 (h1.resolve_right (by decide)) (fun q=>h9 (Or.inl q))⟩,
   fun h hx=>⟨(h0.b8 (h.resolve_right (by decide)) (fun q=>hx (Or.inl q))).1,fun h1 h9=>(h0.b8 (h.resolve_right (by decide)) (fun q=>hx (Or.inl q))).2 (h1.resolve_right (by decide)) (fun q=>h9 (Or.inl q))⟩,
   fun h hx=>h0.k9 (h.resolve_right (by decide)) (fun q=>hx (Or.inl q)),
   fun h=>let ⟨b,e,k⟩:=h0.x (h.resolve_right (by decide));⟨b,e,⟨k.lo,k.lt,fun h'=>k.st (h'.resolve_right (by decide)),fun hx=>k.z (fun q=>hx (Or.inl q)),fun h' hx=>k.a1 (h'.resolve_right (by decide)) (fun q=>hx (Or.inl q)),fun h' hx=>k.a2 (h'.resolve_right (by decide)) (fun q=>hx (Or.inl q)),fun h' hx=>k.a5 (h'.resolve_right (by decide)) (fun q=>hx (Or.inl q)),fun h' hx=>k.a8 (h'.resolve_right (by decide)) (fun q=>hx (Or.inl q))⟩⟩⟩
theorem St11.t4 {v:Value} (h0:St11 n0 sb p4 p7 bv T4 E4 Z KD D us W) (hv:v=p4):St11 n0 sb p4 p7 bv T4 E4 Z KD (fun j=>D j∨j=4) (fun k=>if k=4 then v else us k) W:=by
 exact ⟨fun h=>Or.inl (h0.c5 (h.resolve_right (by decide))),
   fun h=>Or.inl (h0.c8 (h.resolve_right (by decide))),
   fun h=>⟨Or.inl (h0.c9 (h.resolve_right (by decide))).1,Or.inl (h0.c9 (h.resolve_right (by decide))).2⟩,
   fun h=>Or.inl (h0.c15 (h.resolve_right (by decide))),
   fun h=>h0.s0 (h.resolve_right (by decide)),
   fun h=>h0.m3 (h.resolve_right (by decide)),
   fun _=>hv,
   fun h=>h0.m6 (h.resolve_right (by decide)),
   fun h=>h0.q7 (h.resolve_right (by decide)),
   fun h=>h0.k10 (h.resolve_right (by decide)),
   fun h=>h0.k11 (h.resolve_right (by decide)),
   fun h=>h0.k12 (h.resolve_right (by decide)),
   fun h=>h0.k13 (h.resolve_right (by decide)),
   fun h=>h0.k16 (h.resolve_right (by decide)),
   fun h h9=>h0.a (h.resolve_right (by decide)) (fun q=>h9 (Or.inl q)),
   fun h hx=>⟨(h0.b2 (h.resolve_right (by decide)) (fun q=>hx (Or.inl q))).1,fun h1 h9=>(h0.b2 (h.resolve_right (by decide)) (fun q=>hx (Or.inl q))).2 (h1.resolve_right (by decide)) (fun q=>h9 (Or.inl q))⟩,
   fun h hx=>⟨(h0.b5 (h.resolve_right (by decide)) (fun q=>hx (Or.inl q))).1,fun h1 h9=>(h0.b5 (h.resolve_right (by decide)) (fun q=>hx (Or.inl q))).2 (h1.resolve_right (by decide)) (fun q=>h9 (Or.inl q))⟩,
   fun h hx=>⟨(h0.b8 (h.resolve_right (by decide)) (fun q=>hx (Or.inl q))).1,fun h1 h9=>(h0.b8 (h.resolve_right (by decide)) (fun q=>hx (Or.inl q))).2 (h1.resolve_right (by decide)) (fun q=>h9 (Or.inl q))⟩,
   fun h hx=>h0.k9 (h.resolve_right (by decide)) (fun q=>hx (Or.inl q)),
   fun h=>let ⟨b,e,k⟩:=h0.x (h.resolve_right (by decide));⟨b,e,⟨k.lo,k.lt,fun h'=>k.st (h'.resolve_right (by decide)),fun hx=>k.z (fun q=>hx (Or.inl q)),fun h' hx=>k.a1 (h'.resolve_right (by decide)) (fun q=>hx (Or.inl q)),fun h' hx=>k.a2 (h'.resolve_right (by decide)) (fun q=>hx (Or.inl q)),fun h' hx=>k.a5 (h'.resolve_right (by decide)) (fun q=>hx (Or.inl q)),fun h' hx=>k.a8 (h'.resolve_right (by decide)) (fun q=>hx (Or.inl q))⟩⟩⟩
theorem St11.t6 {v:Value} (h0:St11 n0 sb p4 p7 bv T4 E4 Z KD D us W) (hv:v=bv):St11 n0 sb p4 p7 bv T4 E4 Z KD (fun j=>D j∨j=6) (fun k=>if k=6 then v else us k) W:=by
 exact ⟨fun h=>Or.inl (h0.c5 (h.resolve_right (by decide))),
   fun h=>Or.inl (h0.c8 (h.resolve_right (by decide))),
   fun h=>⟨Or.inl (h0.c9 (h.resolve_right (by decide))).1,Or.inl (h0.c9 (h.resolve_right (by decide))).2⟩,
   fun h=>Or.inl (h0.c15 (h.resolve_right (by decide))),
   fun h=>h0.s0 (h.resolve_right (by decide)),
   fun h=>h0.m3 (h.resolve_right (by decide)),
   fun h=>h0.q4 (h.resolve_right (by decide)),
   fun _=>hv,
   fun h=>h0.q7 (h.resolve_right (by decide)),
   fun h=>h0.k10 (h.resolve_right (by decide)),
   fun h=>h0.k11 (h.resolve_right (by decide)),
   fun h=>h0.k12 (h.resolve_right (by decide)),
   fun h=>h0.k13 (h.resolve_right (by decide)),
   fun h=>h0.k16 (h.resolve_right (by decide)),
   fun h h9=>h0.a (h.resolve_right (by decide)) (fun q=>h9 (Or.inl q)),
   fun h hx=>⟨(h0.b2 (h.resolve_right (by decide)) (fun q=>hx (Or.inl q))).1,fun h1 h9=>(h0.b2 (h.resolve_right (by decide)) (fun q=>hx (Or.inl q))).2 (h1.resolve_right (by decide)) (fun q=>h9 (Or.inl q))⟩,
   fun h hx=>⟨(h0.b5 (h.resolve_right (by decide)) (fun q=>hx (Or.inl q))).1,fun h1 h9=>(h0.b5 (h.resolve_right (by decide)) (fun q=>hx (Or.inl q))).2 (h1.resolve_right (by decide)) (fun q=>h9 (Or.inl q))⟩,
   fun h hx=>⟨(h0.b8 (h.resolve_right (by decide)) (fun q=>hx (Or.inl q))).1,fun h1 h9=>(h0.b8 (h.resolve_right (by decide)) (fun q=>hx (Or.inl q))).2 (h1.resolve_right (by decide)) (fun q=>h9 (Or.inl q))⟩,
   fun h hx=>h0.k9 (h.resolve_right (by decide)) (fun q=>hx (Or.inl q)),
   fun h=>let ⟨b,e,k⟩:=h0.x (h.resolve_right (by decide));⟨b,e,⟨k.lo,k.lt,fun h'=>k.st (h'.resolve_right (by decide)),fun hx=>k.z (fun q=>hx (Or.inl q)),fun h' hx=>k.a1 (h'.resolve_right (by decide)) (fun q=>hx (Or.inl q)),fun h' hx=>k.a2 (h'.resolve_right (by decide)) (fun q=>hx (Or.inl q)),fun h' hx=>k.a5 (h'.resolve_right (by decide)) (fun q=>hx (Or.inl q)),fun h' hx=>k.a8 (h'.resolve_right (by decide)) (fun q=>hx (Or.inl q))⟩⟩⟩
theorem St11.t7 {v:Value} (h0:St11 n0 sb p4 p7 bv T4 E4 Z KD D us W) (hv:v=p7):St11 n0 sb p4 p7 bv T4 E4 Z KD (fun j=>D j∨j=7) (fun k=>if k=7 then v else us k) W:=by
 exact ⟨fun h=>Or.inl (h0.c5 (h.resolve_right (by decide))),
   fun h=>Or.inl (h0.c8 (h.resolve_right (by decide))),
   fun h=>⟨Or.inl (h0.c9 (h.resolve_right (by decide))).1,Or.inl (h0.c9 (h.resolve_right (by decide))).2⟩,
   fun h=>Or.inl (h0.c15 (h.resolve_right (by decide))),
   fun h=>h0.s0 (h.resolve_right (by decide)),
   fun h=>h0.m3 (h.resolve_right (by decide)),
   fun h=>h0.q4 (h.resolve_right (by decide)),
   fun h=>h0.m6 (h.resolve_right (by decide)),
   fun _=>hv,
   fun h=>h0.k10 (h.resolve_right (by decide)),
   fun h=>h0.k11 (h.resolve_right (by decide)),
   fun h=>h0.k12 (h.resolve_right (by decide)),
   fun h=>h0.k13 (h.resolve_right (by decide)),
   fun h=>h0.k16 (h.resolve_right (by decide)),
   fun h h9=>h0.a (h.resolve_right (by decide)) (fun q=>h9 (Or.inl q)),
   fun h hx=>⟨(h0.b2 (h.resolve_right (by decide)) (fun q=>hx (Or.inl q))).1,fun h1 h9=>(h0.b2 (h.resolve_right (by decide)) (fun q=>hx (Or.inl q))).2 (h1.resolve_right (by decide)) (fun q=>h9 (Or.inl q))⟩,
   fun h hx=>⟨(h0.b5 (h.resolve_right (by decide)) (fun q=>hx (Or.inl q))).1,fun h1 h9=>(h0.b5 (h.resolve_right (by decide)) (fun q=>hx (Or.inl q))).2 (h1.resolve_right (by decide)) (fun q=>h9 (Or.inl q))⟩,
   fun h hx=>⟨(h0.b8 (h.resolve_right (by decide)) (fun q=>hx (Or.inl q))).1,fun h1 h9=>(h0.b8 (h.resolve_right (by decide)) (fun q=>hx (Or.inl q))).2 (h1.resolve_right (by decide)) (fun q=>h9 (Or.inl q))⟩,
   fun h hx=>h0.k9 (h.resolve_right (by decide)) (fun q=>hx (Or.inl q)),
   fun h=>let ⟨b,e,k⟩:=h0.x (h.resolve_right (by decide));⟨b,e,⟨k.lo,k.lt,fun h'=>k.st (h'.resolve_right (by decide)),fun hx=>k.z (fun q=>hx (Or.inl q)),fun h' hx=>k.a1 (h'.resolve_right (by decide)) (fun q=>hx (Or.inl q)),fun h' hx=>k.a2 (h'.resolve_right (by decide)) (fun q=>hx (Or.inl q)),fun h' hx=>k.a5 (h'.resolve_right (by decide)) (fun q=>hx (Or.inl q)),fun h' hx=>k.a8 (h'.resolve_right (by decide)) (fun q=>hx (Or.inl q))⟩⟩⟩
theorem St11.t10 {v:Value} (h0:St11 n0 sb p4 p7 bv T4 E4 Z KD D us W) (hv:v=.tuple #[.agg KD.toArray,.bool true]):St11 n0 sb p4 p7 bv T4 E4 Z KD (fun j=>D j∨j=10) (fun k=>if k=10 then v else us k) W:=by
 exact ⟨fun h=>Or.inl (h0.c5 (h.resolve_right (by decide))),
   fun h=>Or.inl (h0.c8 (h.resolve_right (by decide))),
   fun h=>⟨Or.inl (h0.c9 (h.resolve_right (by decide))).1,Or.inl (h0.c9 (h.resolve_right (by decide))).2⟩,
   fun h=>Or.inl (h0.c15 (h.resolve_right (by decide))),
   fun h=>h0.s0 (h.resolve_right (by decide)),
   fun h=>h0.m3 (h.resolve_right (by decide)),
   fun h=>h0.q4 (h.resolve_right (by decide)),
   fun h=>h0.m6 (h.resolve_right (by decide)),
   fun h=>h0.q7 (h.resolve_right (by decide)),
   fun _=>hv,
   fun h=>h0.k11 (h.resolve_right (by decide)),
   fun h=>h0.k12 (h.resolve_right (by decide)),
   fun h=>h0.k13 (h.resolve_right (by decide)),
   fun h=>h0.k16 (h.resolve_right (by decide)),
   fun h h9=>h0.a (h.resolve_right (by decide)) (fun q=>h9 (Or.inl q)),
   fun h hx=>⟨(h0.b2 (h.resolve_right (by decide)) (fun q=>hx (Or.inl q))).1,fun h1 h9=>(h0.b2 (h.resolve_right (by decide)) (fun q=>hx (Or.inl q))).2 (h1.resolve_right (by decide)) (fun q=>h9 (Or.inl q))⟩,
   fun h hx=>⟨(h0.b5 (h.resolve_right (by decide)) (fun q=>hx (Or.inl q))).1,fun h1 h9=>(h0.b5 (h.resolve_right (by decide)) (fun q=>hx (Or.inl q))).2 (h1.resolve_right (by decide)) (fun q=>h9 (Or.inl q))⟩,
   fun h hx=>⟨(h0.b8 (h.resolve_right (by decide)) (fun q=>hx (Or.inl q))).1,fun h1 h9=>(h0.b8 (h.resolve_right (by decide)) (fun q=>hx (Or.inl q))).2 (h1.resolve_right (by decide)) (fun q=>h9 (Or.inl q))⟩,
   fun _ hx=>absurd (Or.inr rfl) hx,
   fun h=>let ⟨b,e,k⟩:=h0.x (h.resolve_right (by decide));⟨b,e,⟨k.lo,k.lt,fun h'=>k.st (h'.resolve_right (by decide)),fun hx=>k.z (fun q=>hx (Or.inl q)),fun h' hx=>k.a1 (h'.resolve_right (by decide)) (fun q=>hx (Or.inl q)),fun h' hx=>k.a2 (h'.resolve_right (by decide)) (fun q=>hx (Or.inl q)),fun h' hx=>k.a5 (h'.resolve_right (by decide)) (fun q=>hx (Or.inl q)),fun h' hx=>k.a8 (h'.resolve_right (by decide)) (fun q=>hx (Or.inl q))⟩⟩⟩
theorem St11.t11 {v:Value} (h0:St11 n0 sb p4 p7 bv T4 E4 Z KD D us W) (hv:v=.tuple #[.agg KD.toArray,.bool true]):St11 n0 sb p4 p7 bv T4 E4 Z KD (fun j=>D j∨j=11) (fun k=>if k=11 then v else us k) W:=by
 exact ⟨fun h=>Or.inl (h0.c5 (h.resolve_right (by decide))),
   fun h=>Or.inl (h0.c8 (h.resolve_right (by decide))),
   fun h=>⟨Or.inl (h0.c9 (h.resolve_right (by decide))).1,Or.inl (h0.c9 (h.resolve_right (by decide))).2⟩,
   fun h=>Or.inl (h0.c15 (h.resolve_right (by decide))),
   fun h=>h0.s0 (h.resolve_right (by decide)),
   fun h=>h0.m3 (h.resolve_right (by decide)),
   fun h=>h0.q4 (h.resolve_right (by decide)),
   fun h=>h0.m6 (h.resolve_right (by decide)),
   fun h=>h0.q7 (h.resolve_right (by decide)),
   fun h=>h0.k10 (h.resolve_right (by decide)),
   fun _=>hv,
   fun h=>h0.k12 (h.resolve_right (by decide)),
   fun h=>h0.k13 (h.resolve_right (by decide)),
   fun h=>h0.k16 (h.resolve_right (by decide)),
   fun h h9=>h0.a (h.resolve_right (by decide)) (fun q=>h9 (Or.inl q)),
   fun h hx=>⟨(h0.b2 (h.resolve_right (by decide)) (fun q=>hx (Or.inl q))).1,fun h1 h9=>(h0.b2 (h.resolve_right (by decide)) (fun q=>hx (Or.inl q))).2 (h1.resolve_right (by decide)) (fun q=>h9 (Or.inl q))⟩,
   fun h hx=>⟨(h0.b5 (h.resolve_right (by decide)) (fun q=>hx (Or.inl q))).1,fun h1 h9=>(h0.b5 (h.resolve_right (by decide)) (fun q=>hx (Or.inl q))).2 (h1.resolve_right (by decide)) (fun q=>h9 (Or.inl q))⟩,
   fun h hx=>⟨(h0.b8 (h.resolve_right (by decide)) (fun q=>hx (Or.inl q))).1,fun h1 h9=>(h0.b8 (h.resolve_right (by decide)) (fun q=>hx (Or.inl q))).2 (h1.resolve_right (by decide)) (fun q=>h9 (Or.inl q))⟩,
   fun h hx=>h0.k9 (h.resolve_right (by decide)) (fun q=>hx (Or.inl q)),
   fun h=>let ⟨b,e,k⟩:=h0.x (h.resolve_right (by decide));⟨b,e,⟨k.lo,k.lt,fun h'=>k.st (h'.resolve_right (by decide)),fun hx=>k.z (fun q=>hx (Or.inl q)),fun h' hx=>k.a1 (h'.resolve_right (by decide)) (fun q=>hx (Or.inl q)),fun h' hx=>k.a2 (h'.resolve_right (by decide)) (fun q=>hx (Or.inl q)),fun h' hx=>k.a5 (h'.resolve_right (by decide)) (fun q=>hx (Or.inl q)),fun h' hx=>k.a8 (h'.resolve_right (by decide)) (fun q=>hx (Or.inl q))⟩⟩⟩
theorem St11.t12 {v:Value} (h0:St11 n0 sb p4 p7 bv T4 E4 Z KD D us W) (hv:v=.agg KD.toArray):St11 n0 sb p4 p7 bv T4 E4 Z KD (fun j=>D j∨j=12) (fun k=>if k=12 then v else us k) W:=by
 exact ⟨fun h=>Or.inl (h0.c5 (h.resolve_right (by decide))),
   fun h=>Or.inl (h0.c8 (h.resolve_right (by decide))),
   fun h=>⟨Or.inl (h0.c9 (h.resolve_right (by decide))).1,Or.inl (h0.c9 (h.resolve_right (by decide))).2⟩,
   fun h=>Or.inl (h0.c15 (h.resolve_right (by decide))),
   fun h=>h0.s0 (h.resolve_right (by decide)),
   fun h=>h0.m3 (h.resolve_right (by decide)),
   fun h=>h0.q4 (h.resolve_right (by decide)),
   fun h=>h0.m6 (h.resolve_right (by decide)),
   fun h=>h0.q7 (h.resolve_right (by decide)),
   fun h=>h0.k10 (h.resolve_right (by decide)),
   fun h=>h0.k11 (h.resolve_right (by decide)),
   fun _=>hv,
   fun h=>h0.k13 (h.resolve_right (by decide)),
   fun h=>h0.k16 (h.resolve_right (by decide)),
   fun h h9=>h0.a (h.resolve_right (by decide)) (fun q=>h9 (Or.inl q)),
   fun h hx=>⟨(h0.b2 (h.resolve_right (by decide)) (fun q=>hx (Or.inl q))).1,fun h1 h9=>(h0.b2 (h.resolve_right (by decide)) (fun q=>hx (Or.inl q))).2 (h1.resolve_right (by decide)) (fun q=>h9 (Or.inl q))⟩,
   fun h hx=>⟨(h0.b5 (h.resolve_right (by decide)) (fun q=>hx (Or.inl q))).1,fun h1 h9=>(h0.b5 (h.resolve_right (by decide)) (fun q=>hx (Or.inl q))).2 (h1.resolve_right (by decide)) (fun q=>h9 (Or.inl q))⟩,
   fun h hx=>⟨(h0.b8 (h.resolve_right (by decide)) (fun q=>hx (Or.inl q))).1,fun h1 h9=>(h0.b8 (h.resolve_right (by decide)) (fun q=>hx (Or.inl q))).2 (h1.resolve_right (by decide)) (fun q=>h9 (Or.inl q))⟩,
   fun h hx=>h0.k9 (h.resolve_right (by decide)) (fun q=>hx (Or.inl q)),
   fun h=>let ⟨b,e,k⟩:=h0.x (h.resolve_right (by decide));⟨b,e,⟨k.lo,k.lt,fun h'=>k.st (h'.resolve_right (by decide)),fun hx=>k.z (fun q=>hx (Or.inl q)),fun h' hx=>k.a1 (h'.resolve_right (by decide)) (fun q=>hx (Or.inl q)),fun h' hx=>k.a2 (h'.resolve_right (by decide)) (fun q=>hx (Or.inl q)),fun h' hx=>k.a5 (h'.resolve_right (by decide)) (fun q=>hx (Or.inl q)),fun h' hx=>k.a8 (h'.resolve_right (by decide)) (fun q=>hx (Or.inl q))⟩⟩⟩
theorem St11.t13 {v:Value} (h0:St11 n0 sb p4 p7 bv T4 E4 Z KD D us W) (hv:v=.bool true):St11 n0 sb p4 p7 bv T4 E4 Z KD (fun j=>D j∨j=13) (fun k=>if k=13 then v else us k) W:=by
 exact ⟨fun h=>Or.inl (h0.c5 (h.resolve_right (by decide))),
   fun h=>Or.inl (h0.c8 (h.resolve_right (by decide))),
   fun h=>⟨Or.inl (h0.c9 (h.resolve_right (by decide))).1,Or.inl (h0.c9 (h.resolve_right (by decide))).2⟩,
   fun h=>Or.inl (h0.c15 (h.resolve_right (by decide))),
   fun h=>h0.s0 (h.resolve_right (by decide)),
   fun h=>h0.m3 (h.resolve_right (by decide)),
   fun h=>h0.q4 (h.resolve_right (by decide)),
   fun h=>h0.m6 (h.resolve_right (by decide)),
   fun h=>h0.q7 (h.resolve_right (by decide)),
   fun h=>h0.k10 (h.resolve_right (by decide)),
   fun h=>h0.k11 (h.resolve_right (by decide)),
   fun h=>h0.k12 (h.resolve_right (by decide)),
   fun _=>hv,
   fun h=>h0.k16 (h.resolve_right (by decide)),
   fun h h9=>h0.a (h.resolve_right (by decide)) (fun q=>h9 (Or.inl q)),
   fun h hx=>⟨(h0.b2 (h.resolve_right (by decide)) (fun q=>hx (Or.inl q))).1,fun h1 h9=>(h0.b2 (h.resolve_right (by decide)) (fun q=>hx (Or.inl q))).2 (h1.resolve_right (by decide)) (fun q=>h9 (Or.inl q))⟩,
   fun h hx=>⟨(h0.b5 (h.resolve_right (by decide)) (fun q=>hx (Or.inl q))).1,fun h1 h9=>(h0.b5 (h.resolve_right (by decide)) (fun q=>hx (Or.inl q))).2 (h1.resolve_right (by decide)) (fun q=>h9 (Or.inl q))⟩,
   fun h hx=>⟨(h0.b8 (h.resolve_right (by decide)) (fun q=>hx (Or.inl q))).1,fun h1 h9=>(h0.b8 (h.resolve_right (by decide)) (fun q=>hx (Or.inl q))).2 (h1.resolve_right (by decide)) (fun q=>h9 (Or.inl q))⟩,
   fun h hx=>h0.k9 (h.resolve_right (by decide)) (fun q=>hx (Or.inl q)),
   fun h=>let ⟨b,e,k⟩:=h0.x (h.resolve_right (by decide));⟨b,e,⟨k.lo,k.lt,fun h'=>k.st (h'.resolve_right (by decide)),fun hx=>k.z (fun q=>hx (Or.inl q)),fun h' hx=>k.a1 (h'.resolve_right (by decide)) (fun q=>hx (Or.inl q)),fun h' hx=>k.a2 (h'.resolve_right (by decide)) (fun q=>hx (Or.inl q)),fun h' hx=>k.a5 (h'.resolve_right (by decide)) (fun q=>hx (Or.inl q)),fun h' hx=>k.a8 (h'.resolve_right (by decide)) (fun q=>hx (Or.inl q))⟩⟩⟩
theorem St11.t16 {v:Value} (h0:St11 n0 sb p4 p7 bv T4 E4 Z KD D us W) (hv:v=.bool true):St11 n0 sb p4 p7 bv T4 E4 Z KD (fun j=>D j∨j=16) (fun k=>if k=16 then v else us k) W:=by
 exact ⟨fun h=>Or.inl (h0.c5 (h.resolve_right (by decide))),
   fun h=>Or.inl (h0.c8 (h.resolve_right (by decide))),
   fun h=>⟨Or.inl (h0.c9 (h.resolve_right (by decide))).1,Or.inl (h0.c9 (h.resolve_right (by decide))).2⟩,
   fun h=>Or.inl (h0.c15 (h.resolve_right (by decide))),
   fun h=>h0.s0 (h.resolve_right (by decide)),
   fun h=>h0.m3 (h.resolve_right (by decide)),
   fun h=>h0.q4 (h.resolve_right (by decide)),
   fun h=>h0.m6 (h.resolve_right (by decide)),
   fun h=>h0.q7 (h.resolve_right (by decide)),
   fun h=>h0.k10 (h.resolve_right (by decide)),
   fun h=>h0.k11 (h.resolve_right (by decide)),
   fun h=>h0.k12 (h.resolve_right (by decide)),
   fun h=>h0.k13 (h.resolve_right (by decide)),
   fun _=>hv,
   fun h h9=>h0.a (h.resolve_right (by decide)) (fun q=>h9 (Or.inl q)),
   fun h hx=>⟨(h0.b2 (h.resolve_right (by decide)) (fun q=>hx (Or.inl q))).1,fun h1 h9=>(h0.b2 (h.resolve_right (by decide)) (fun q=>hx (Or.inl q))).2 (h1.resolve_right (by decide)) (fun q=>h9 (Or.inl q))⟩,
   fun h hx=>⟨(h0.b5 (h.resolve_right (by decide)) (fun q=>hx (Or.inl q))).1,fun h1 h9=>(h0.b5 (h.resolve_right (by decide)) (fun q=>hx (Or.inl q))).2 (h1.resolve_right (by decide)) (fun q=>h9 (Or.inl q))⟩,
   fun h hx=>⟨(h0.b8 (h.resolve_right (by decide)) (fun q=>hx (Or.inl q))).1,fun h1 h9=>(h0.b8 (h.resolve_right (by decide)) (fun q=>hx (Or.inl q))).2 (h1.resolve_right (by decide)) (fun q=>h9 (Or.inl q))⟩,
   fun h hx=>h0.k9 (h.resolve_right (by decide)) (fun q=>hx (Or.inl q)),
   fun h=>let ⟨b,e,k⟩:=h0.x (h.resolve_right (by decide));⟨b,e,⟨k.lo,k.lt,fun h'=>k.st (h'.resolve_right (by decide)),fun hx=>k.z (fun q=>hx (Or.inl q)),fun h' hx=>k.a1 (h'.resolve_right (by decide)) (fun q=>hx (Or.inl q)),fun h' hx=>k.a2 (h'.resolve_right (by decide)) (fun q=>hx (Or.inl q)),fun h' hx=>k.a5 (h'.resolve_right (by decide)) (fun q=>hx (Or.inl q)),fun h' hx=>k.a8 (h'.resolve_right (by decide)) (fun q=>hx (Or.inl q))⟩⟩⟩
theorem St11.t1 {v:Value} (h0:St11 n0 sb p4 p7 bv T4 E4 Z KD D us W) (hn:¬ D 1) (hb:Below W.heap.size W W') (hvb:v.ownBlock=some W.heap.size) (hw:OwR n0 W' v [107]):St11 n0 sb p4 p7 bv T4 E4 Z KD (fun j=>D j∨j=1) (fun k=>if k=1 then v else us k) W':=by
 have hz:=h0.below hb
 exact ⟨fun h=>Or.inl (h0.c5 (h.resolve_right (by decide))),
   fun h=>Or.inl (h0.c8 (h.resolve_right (by decide))),
   fun h=>⟨Or.inl (h0.c9 (h.resolve_right (by decide))).1,Or.inl (h0.c9 (h.resolve_right (by decide))).2⟩,
   fun h=>Or.inl (h0.c15 (h.resolve_right (by decide))),
   fun h=>h0.s0 (h.resolve_right (by decide)),
   fun h=>h0.m3 (h.resolve_right (by decide)),
   fun h=>h0.q4 (h.resolve_right (by decide)),
   fun h=>h0.m6 (h.resolve_right (by decide)),
   fun h=>h0.q7 (h.resolve_right (by decide)),
   fun h=>h0.k10 (h.resolve_right (by decide)),
   fun h=>h0.k11 (h.resolve_right (by decide)),
   fun h=>h0.k12 (h.resolve_right (by decide)),
   fun h=>h0.k13 (h.resolve_right (by decide)),
   fun h=>h0.k16 (h.resolve_right (by decide)),
   fun _ _=>hw,
   fun h hx=>⟨(hz.b2 (h.resolve_right (by decide)) (fun q=>hx (Or.inl q))).1,fun _ _=>by show Apart v.ownBlock _;rw [hvb];exact (Apart.new (h0.b2 (h.resolve_right (by decide)) (fun q=>hx (Or.inl q))).1.lt).symm⟩,
   fun h hx=>⟨(hz.b5 (h.resolve_right (by decide)) (fun q=>hx (Or.inl q))).1,fun _ _=>by show Apart v.ownBlock _;rw [hvb];exact (Apart.new (h0.b5 (h.resolve_right (by decide)) (fun q=>hx (Or.inl q))).1.lt).symm⟩,
   fun h hx=>⟨(hz.b8 (h.resolve_right (by decide)) (fun q=>hx (Or.inl q))).1,fun _ _=>by show Apart v.ownBlock _;rw [hvb];exact (Apart.new (h0.b8 (h.resolve_right (by decide)) (fun q=>hx (Or.inl q))).1.lt).symm⟩,
   fun h _=>absurd (h0.c9 (h.resolve_right (by decide))).2 hn,
   fun h=>let ⟨b,e,k⟩:=h0.x (h.resolve_right (by decide));⟨b,e,⟨k.lo,Nat.lt_of_lt_of_le k.lt hb.size,fun h'=>(k.st (h'.resolve_right (by decide))).below hb,fun hx=>(k.z (fun q=>hx (Or.inl q))).below hb,fun _ _=>by show Apart v.ownBlock _;rw [hvb];exact (Apart.new (A:=some b) (fun g e=>by cases e;exact k.lt)).symm,fun h' hx=>k.a2 (h'.resolve_right (by decide)) (fun q=>hx (Or.inl q)),fun h' hx=>k.a5 (h'.resolve_right (by decide)) (fun q=>hx (Or.inl q)),fun h' hx=>k.a8 (h'.resolve_right (by decide)) (fun q=>hx (Or.inl q))⟩⟩⟩
theorem St11.t2 {v:Value} (h0:St11 n0 sb p4 p7 bv T4 E4 Z KD D us W) (hn:¬ D 2) (hb:Below W.heap.size W W') (hvb:v.ownBlock=some W.heap.size) (hw:OwR n0 W' v []):St11 n0 sb p4 p7 bv T4 E4 Z KD (fun j=>D j∨j=2) (fun k=>if k=2 then v else us k) W':=by
 have hz:=h0.below hb
 exact ⟨fun h=>Or.inl (h0.c5 (h.resolve_right (by decide))),
   fun h=>Or.inl (h0.c8 (h.resolve_right (by decide))),
   fun h=>⟨Or.inl (h0.c9 (h.resolve_right (by decide))).1,Or.inl (h0.c9 (h.resolve_right (by decide))).2⟩,
   fun h=>Or.inl (h0.c15 (h.resolve_right (by decide))),
   fun h=>h0.s0 (h.resolve_right (by decide)),
   fun h=>h0.m3 (h.resolve_right (by decide)),
   fun h=>h0.q4 (h.resolve_right (by decide)),
   fun h=>h0.m6 (h.resolve_right (by decide)),
   fun h=>h0.q7 (h.resolve_right (by decide)),
   fun h=>h0.k10 (h.resolve_right (by decide)),
   fun h=>h0.k11 (h.resolve_right (by decide)),
   fun h=>h0.k12 (h.resolve_right (by decide)),
   fun h=>h0.k13 (h.resolve_right (by decide)),
   fun h=>h0.k16 (h.resolve_right (by decide)),
   fun h h9=>hz.a (h.resolve_right (by decide)) (fun q=>h9 (Or.inl q)),
   fun _ _=>⟨hw,fun h h9=>by show Apart _ v.ownBlock;rw [hvb];exact Apart.new (h0.a (h.resolve_right (by decide)) (fun q=>h9 (Or.inl q))).lt⟩,
   fun h _=>absurd (h0.c5 (h.resolve_right (by decide))) hn,
   fun h _=>absurd (h0.c5 (h0.c8 (h.resolve_right (by decide)))) hn,
   fun h _=>absurd (h0.c5 (h0.c8 (h0.c9 (h.resolve_right (by decide))).1)) hn,
   fun h=>let ⟨b,e,k⟩:=h0.x (h.resolve_right (by decide));⟨b,e,⟨k.lo,Nat.lt_of_lt_of_le k.lt hb.size,fun h'=>(k.st (h'.resolve_right (by decide))).below hb,fun hx=>(k.z (fun q=>hx (Or.inl q))).below hb,fun h' hx=>k.a1 (h'.resolve_right (by decide)) (fun q=>hx (Or.inl q)),fun _ _=>by show Apart v.ownBlock _;rw [hvb];exact (Apart.new (A:=some b) (fun g e=>by cases e;exact k.lt)).symm,fun h' hx=>k.a5 (h'.resolve_right (by decide)) (fun q=>hx (Or.inl q)),fun h' hx=>k.a8 (h'.resolve_right (by decide)) (fun q=>hx (Or.inl q))⟩⟩⟩
theorem St11.t5 {v:Value} (h0:St11 n0 sb p4 p7 bv T4 E4 Z KD D us W) (hn:¬ D 5) (d2:D 2) (hg:W.grownBy W' (us 2).ownBlock) (hat:v.ownBlock=(us 2).ownBlock∨v.ownBlock=some W.heap.size) (hw:OwR n0 W' v ([] ++ T4)):St11 n0 sb p4 p7 bv T4 E4 Z KD (fun j=>D j∨j=5) (fun k=>if k=5 then v else us k) W':=by
 exact ⟨fun _=>Or.inl d2,
   fun h=>Or.inl (h0.c8 (h.resolve_right (by decide))),
   fun h=>⟨Or.inl (h0.c9 (h.resolve_right (by decide))).1,Or.inl (h0.c9 (h.resolve_right (by decide))).2⟩,
   fun h=>Or.inl (h0.c15 (h.resolve_right (by decide))),
   fun h=>h0.s0 (h.resolve_right (by decide)),
   fun h=>h0.m3 (h.resolve_right (by decide)),
   fun h=>h0.q4 (h.resolve_right (by decide)),
   fun h=>h0.m6 (h.resolve_right (by decide)),
   fun h=>h0.q7 (h.resolve_right (by decide)),
   fun h=>h0.k10 (h.resolve_right (by decide)),
   fun h=>h0.k11 (h.resolve_right (by decide)),
   fun h=>h0.k12 (h.resolve_right (by decide)),
   fun h=>h0.k13 (h.resolve_right (by decide)),
   fun h=>h0.k16 (h.resolve_right (by decide)),
   fun h h9=>(h0.a (h.resolve_right (by decide)) (fun q=>h9 (Or.inl q))).kept hg ((h0.b2 d2 hn).2 (h.resolve_right (by decide)) (fun q=>h9 (Or.inl q))),
   fun _ hx=>absurd (Or.inr rfl) hx,
   fun _ _=>⟨hw,fun h h9=>(Apart.app hat ((h0.b2 d2 hn).2 (h.resolve_right (by decide)) (fun q=>h9 (Or.inl q))).symm (h0.a (h.resolve_right (by decide)) (fun q=>h9 (Or.inl q))).lt).symm⟩,
   fun h _=>absurd (h0.c8 (h.resolve_right (by decide))) hn,
   fun h _=>absurd (h0.c8 (h0.c9 (h.resolve_right (by decide))).1) hn,
   fun h=>let ⟨b,e,k⟩:=h0.x (h.resolve_right (by decide));⟨b,e,⟨k.lo,Nat.lt_of_lt_of_le k.lt hg.size,fun h'=>(k.st (h'.resolve_right (by decide))).grown hg (k.a2 d2 hn),fun hx=>(k.z (fun q=>hx (Or.inl q))).grown hg (k.a2 d2 hn),fun h' hx=>k.a1 (h'.resolve_right (by decide)) (fun q=>hx (Or.inl q)),fun _ hx=>absurd (Or.inr rfl) hx,fun _ _=>Apart.app hat (k.a2 d2 hn) (fun g e=>by cases e;exact k.lt),fun h' hx=>k.a8 (h'.resolve_right (by decide)) (fun q=>hx (Or.inl q))⟩⟩⟩
theorem St11.t8 {v:Value} (h0:St11 n0 sb p4 p7 bv T4 E4 Z KD D us W) (hn:¬ D 8) (d5:D 5) (hg:W.grownBy W' (us 5).ownBlock) (hat:v.ownBlock=(us 5).ownBlock∨v.ownBlock=some W.heap.size) (hw:OwR n0 W' v (([] ++ T4) ++ E4)):St11 n0 sb p4 p7 bv T4 E4 Z KD (fun j=>D j∨j=8) (fun k=>if k=8 then v else us k) W':=by
 exact ⟨fun h=>Or.inl (h0.c5 (h.resolve_right (by decide))),
   fun _=>Or.inl d5,
   fun h=>⟨Or.inl (h0.c9 (h.resolve_right (by decide))).1,Or.inl (h0.c9 (h.resolve_right (by decide))).2⟩,
   fun h=>Or.inl (h0.c15 (h.resolve_right (by decide))),
   fun h=>h0.s0 (h.resolve_right (by decide)),
   fun h=>h0.m3 (h.resolve_right (by decide)),
   fun h=>h0.q4 (h.resolve_right (by decide)),
   fun h=>h0.m6 (h.resolve_right (by decide)),
   fun h=>h0.q7 (h.resolve_right (by decide)),
   fun h=>h0.k10 (h.resolve_right (by decide)),
   fun h=>h0.k11 (h.resolve_right (by decide)),
   fun h=>h0.k12 (h.resolve_right (by decide)),
   fun h=>h0.k13 (h.resolve_right (by decide)),
   fun h=>h0.k16 (h.resolve_right (by decide)),
   fun h h9=>(h0.a (h.resolve_right (by decide)) (fun q=>h9 (Or.inl q))).kept hg ((h0.b5 d5 hn).2 (h.resolve_right (by decide)) (fun q=>h9 (Or.inl q))),
   fun _ hx=>absurd (Or.inl d5) hx,
   fun _ hx=>absurd (Or.inr rfl) hx,
   fun _ _=>⟨hw,fun h h9=>(Apart.app hat ((h0.b5 d5 hn).2 (h.resolve_right (by decide)) (fun q=>h9 (Or.inl q))).symm (h0.a (h.resolve_right (by decide)) (fun q=>h9 (Or.inl q))).lt).symm⟩,
   fun h _=>absurd (h0.c9 (h.resolve_right (by decide))).1 hn,
   fun h=>let ⟨b,e,k⟩:=h0.x (h.resolve_right (by decide));⟨b,e,⟨k.lo,Nat.lt_of_lt_of_le k.lt hg.size,fun h'=>(k.st (h'.resolve_right (by decide))).grown hg (k.a5 d5 hn),fun hx=>(k.z (fun q=>hx (Or.inl q))).grown hg (k.a5 d5 hn),fun h' hx=>k.a1 (h'.resolve_right (by decide)) (fun q=>hx (Or.inl q)),fun h' hx=>k.a2 (h'.resolve_right (by decide)) (fun q=>hx (Or.inl q)),fun _ hx=>absurd (Or.inr rfl) hx,fun _ _=>Apart.app hat (k.a5 d5 hn) (fun g e=>by cases e;exact k.lt)⟩⟩⟩
theorem St11.t9 {v:Value} (h0:St11 n0 sb p4 p7 bv T4 E4 Z KD D us W) (hn:¬ D 9) (d1:D 1) (d8:D 8) (hg:W.grownBy W' (us 1).ownBlock) (hk9:IsL W' .u8 v ([107] ++ (([] ++ T4) ++ E4))):St11 n0 sb p4 p7 bv T4 E4 Z KD (fun j=>D j∨j=9) (fun k=>if k=9 then v else us k) W':=by
 exact ⟨fun h=>Or.inl (h0.c5 (h.resolve_right (by decide))),
   fun h=>Or.inl (h0.c8 (h.resolve_right (by decide))),
   fun _=>⟨Or.inl d8,Or.inl d1⟩,
   fun h=>Or.inl (h0.c15 (h.resolve_right (by decide))),
   fun h=>h0.s0 (h.resolve_right (by decide)),
   fun h=>h0.m3 (h.resolve_right (by decide)),
   fun h=>h0.q4 (h.resolve_right (by decide)),
   fun h=>h0.m6 (h.resolve_right (by decide)),
   fun h=>h0.q7 (h.resolve_right (by decide)),
   fun h=>h0.k10 (h.resolve_right (by decide)),
   fun h=>h0.k11 (h.resolve_right (by decide)),
   fun h=>h0.k12 (h.resolve_right (by decide)),
   fun h=>h0.k13 (h.resolve_right (by decide)),
   fun h=>h0.k16 (h.resolve_right (by decide)),
   fun _ h9=>absurd (Or.inr rfl) h9,
   fun _ hx=>absurd (Or.inl (h0.c8 d8)) hx,
   fun _ hx=>absurd (Or.inl d8) hx,
   fun _ hx=>absurd (Or.inr rfl) hx,
   fun _ _=>hk9,
   fun h=>let ⟨b,e,k⟩:=h0.x (h.resolve_right (by decide));⟨b,e,⟨k.lo,Nat.lt_of_lt_of_le k.lt hg.size,fun h'=>(k.st (h'.resolve_right (by decide))).grown hg (k.a1 d1 hn),fun hx=>(k.z (fun q=>hx (Or.inl q))).grown hg (k.a1 d1 hn),fun _ hx=>absurd (Or.inr rfl) hx,fun h' hx=>k.a2 (h'.resolve_right (by decide)) (fun q=>hx (Or.inl q)),fun h' hx=>k.a5 (h'.resolve_right (by decide)) (fun q=>hx (Or.inl q)),fun _ hx=>absurd (Or.inr rfl) hx⟩⟩⟩
theorem St11.t14 {v:Value} (h0:St11 n0 sb p4 p7 bv T4 E4 Z KD D us W) (hn:¬ D 14) (hb:Below W.heap.size W W') (hlo:n0≤W.heap.size) (hv:v=.pointer (some ⟨W.heap.size,0,none⟩)) (hx0:Box W' W.heap.size Z):St11 n0 sb p4 p7 bv T4 E4 Z KD (fun j=>D j∨j=14) (fun k=>if k=14 then v else us k) W':=by
 have hz:=h0.below hb
 exact ⟨fun h=>Or.inl (h0.c5 (h.resolve_right (by decide))),
   fun h=>Or.inl (h0.c8 (h.resolve_right (by decide))),
   fun h=>⟨Or.inl (h0.c9 (h.resolve_right (by decide))).1,Or.inl (h0.c9 (h.resolve_right (by decide))).2⟩,
   fun h=>Or.inl (h0.c15 (h.resolve_right (by decide))),
   fun h=>h0.s0 (h.resolve_right (by decide)),
   fun h=>h0.m3 (h.resolve_right (by decide)),
   fun h=>h0.q4 (h.resolve_right (by decide)),
   fun h=>h0.m6 (h.resolve_right (by decide)),
   fun h=>h0.q7 (h.resolve_right (by decide)),
   fun h=>h0.k10 (h.resolve_right (by decide)),
   fun h=>h0.k11 (h.resolve_right (by decide)),
   fun h=>h0.k12 (h.resolve_right (by decide)),
   fun h=>h0.k13 (h.resolve_right (by decide)),
   fun h=>h0.k16 (h.resolve_right (by decide)),
   fun h h9=>hz.a (h.resolve_right (by decide)) (fun q=>h9 (Or.inl q)),
   fun h hx=>⟨(hz.b2 (h.resolve_right (by decide)) (fun q=>hx (Or.inl q))).1,fun h1 h9=>(h0.b2 (h.resolve_right (by decide)) (fun q=>hx (Or.inl q))).2 (h1.resolve_right (by decide)) (fun q=>h9 (Or.inl q))⟩,
   fun h hx=>⟨(hz.b5 (h.resolve_right (by decide)) (fun q=>hx (Or.inl q))).1,fun h1 h9=>(h0.b5 (h.resolve_right (by decide)) (fun q=>hx (Or.inl q))).2 (h1.resolve_right (by decide)) (fun q=>h9 (Or.inl q))⟩,
   fun h hx=>⟨(hz.b8 (h.resolve_right (by decide)) (fun q=>hx (Or.inl q))).1,fun h1 h9=>(h0.b8 (h.resolve_right (by decide)) (fun q=>hx (Or.inl q))).2 (h1.resolve_right (by decide)) (fun q=>h9 (Or.inl q))⟩,
   fun h hx=>hz.k9 (h.resolve_right (by decide)) (fun q=>hx (Or.inl q)),
   fun _=>⟨W.heap.size,hv,⟨hlo,hx0.lt,fun h=>absurd (h0.c15 (h.resolve_right (by decide))) hn,fun _=>hx0,fun h' hx=>Apart.new (h0.a (h'.resolve_right (by decide)) (fun q=>hx (Or.inl q))).lt,fun h' hx=>Apart.new (h0.b2 (h'.resolve_right (by decide)) (fun q=>hx (Or.inl q))).1.lt,fun h' hx=>Apart.new (h0.b5 (h'.resolve_right (by decide)) (fun q=>hx (Or.inl q))).1.lt,fun h' hx=>Apart.new (h0.b8 (h'.resolve_right (by decide)) (fun q=>hx (Or.inl q))).1.lt⟩⟩⟩
theorem St11.t15 {v:Value} (h0:St11 n0 sb p4 p7 bv T4 E4 Z KD D us W) (d10:D 10) (d9:D 9) (d14:D 14) (hst:∀ b,us 14=.pointer (some ⟨b,0,none⟩)→Box W' b KD) (hlt:∀ b,us 14=.pointer (some ⟨b,0,none⟩)→b < W'.heap.size):St11 n0 sb p4 p7 bv T4 E4 Z KD (fun j=>D j∨j=15) (fun k=>if k=15 then v else us k) W':=by
 exact ⟨fun h=>Or.inl (h0.c5 (h.resolve_right (by decide))),
   fun h=>Or.inl (h0.c8 (h.resolve_right (by decide))),
   fun h=>⟨Or.inl (h0.c9 (h.resolve_right (by decide))).1,Or.inl (h0.c9 (h.resolve_right (by decide))).2⟩,
   fun _=>Or.inl d14,
   fun h=>h0.s0 (h.resolve_right (by decide)),
   fun h=>h0.m3 (h.resolve_right (by decide)),
   fun h=>h0.q4 (h.resolve_right (by decide)),
   fun h=>h0.m6 (h.resolve_right (by decide)),
   fun h=>h0.q7 (h.resolve_right (by decide)),
   fun h=>h0.k10 (h.resolve_right (by decide)),
   fun h=>h0.k11 (h.resolve_right (by decide)),
   fun h=>h0.k12 (h.resolve_right (by decide)),
   fun h=>h0.k13 (h.resolve_right (by decide)),
   fun h=>h0.k16 (h.resolve_right (by decide)),
   fun _ h9=>absurd (Or.inl d9) h9,
   fun _ hx=>absurd (Or.inl (h0.c8 (h0.c9 d9).1)) hx,
   fun _ hx=>absurd (Or.inl (h0.c9 d9).1) hx,
   fun _ hx=>absurd (Or.inl d9) hx,
   fun _ hx=>absurd (Or.inl d10) hx,
   fun h=>let ⟨b,e,k⟩:=h0.x (h.resolve_right (by decide));⟨b,e,⟨k.lo,hlt b e,fun _=>hst b e,fun hx=>absurd (Or.inr rfl) hx,fun h' hx=>k.a1 (h'.resolve_right (by decide)) (fun q=>hx (Or.inl q)),fun h' hx=>k.a2 (h'.resolve_right (by decide)) (fun q=>hx (Or.inl q)),fun h' hx=>k.a5 (h'.resolve_right (by decide)) (fun q=>hx (Or.inl q)),fun h' hx=>k.a8 (h'.resolve_right (by decide)) (fun q=>hx (Or.inl q))⟩⟩⟩
end
end Go.Proofs.YtnfejdfjlnpldaaGreatDoor
