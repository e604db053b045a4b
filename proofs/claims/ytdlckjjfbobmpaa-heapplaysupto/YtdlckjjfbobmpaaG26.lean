/- What is proved here: the statement HeapPlays, in its second form: whatever calls are made of a heap, it answers as the document says. Condition: its own (the bulk of what is handed in is at most 1048576). -/
import Derived.Test.YtdlckjjfbobmpaaG25
namespace Go.Proofs.Ytdlckjjfbobmpaa
theorem hplays_holds : Rows.HeapPlaysUptoSaid := hplays_of hplays_walk
end Go.Proofs.Ytdlckjjfbobmpaa
