import Derived.WalkKit
namespace Go.Proofs.YtfpeplbmfbepcaaGreat
structure Lk where
  pl : Int
  rl : Int
  to : ByteArray
  nm : ByteArray
  hto : to.size <= maxLen
  hnm : nm.size <= maxLen
end Go.Proofs.YtfpeplbmfbepcaaGreat
