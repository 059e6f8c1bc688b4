/-
  Layer 2: the tree that is planted is the tree.
-/
import Derived.Test.YtjnjganmdbkpoaaHfPlant
namespace Go.Proofs.Ytjnjganmdbkpoaa
theorem build_is : buildP 256 0 1 (List.replicate 256 (0, 0)) = some (256, treeL) := by decide +kernel
end Go.Proofs.Ytjnjganmdbkpoaa
