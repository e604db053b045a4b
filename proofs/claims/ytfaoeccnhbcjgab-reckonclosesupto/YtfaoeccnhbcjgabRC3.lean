/- What is proved here: clerkkeep.ReckonCloses of two terms, a list of terms that lie in memory, and a number returns true, and turns no memory that was there. Condition: at most 2097152 terms in each. -/
import Derived.Test.YtfaoeccnhbcjgabRC2
namespace Go.Proofs.Ytfaoeccnhbcjgab
open Go.RowKit

theorem rclose_any (n k m : Nat) (x : Tm (n + 1)) (t : Tm (k + 1)) (b : List (Tm m)) (a : Option Addr) (c B : Nat) (self : Int) (w : World) (hx : In B w (n + 1) x) (ht : In B w (k + 1) t) (hb : Lies B w m b a) (hB : B ≤ w.heap.size) (hNx : (nodes (n + 1) x).length ≤ 2097152) (hNt : (nodes (k + 1) t).length ≤ 2097152) (hbl : b.length ≤ 9223372036854775807) (hNb : ∀ y ∈ b, (nodes m y).length ≤ 2097152) :
    Calls Try.prog 7 #[val (n + 1) x, val (k + 1) t, .slice a b.length c, .int .i64 self] w fun e w' => e = .returned (.bool true) ∧ Below w.heap.size w w' :=
  rclose_walk n k m x t b a b.length c B self w hB rfl hb hx ht hNx hNt hbl hNb
end Go.Proofs.Ytfaoeccnhbcjgab
