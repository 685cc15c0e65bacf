import Derived.Test.YtnfnbcbadakofaaGood
namespace Go.Proofs.Ytnfnbcbadakofaa
open Go.RowKit
theorem info74:∃ i:TypeInfo,Try.prog.info? 99=some i/\i.zero=some (.agg #[oO,oO,oO])/\i.size=3/\i.bytes=24:=info_of (by kernel_rfl)
end Go.Proofs.Ytnfnbcbadakofaa
