import Derived.Test.YtnfnbcbadakofaaRfun
namespace Go.Proofs.Ytnfnbcbadakofaa
open Go.RowKit
theorem info67:∃ i:TypeInfo,Try.prog.info? 92=some i/\i.zero=some (.agg #[oO,(),oO,()])/\i.size=4/\i.bytes=64:=info_of (by kernel_rfl)
end Go.Proofs.Ytnfnbcbadakofaa
