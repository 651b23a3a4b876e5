/- Several texts as one. -/
import Derived.Test.YtdocpfbfchaekaaGreatDD
import Derived.ProofKit
import Derived.Test.YtdocpfbfchaekaaGreatSA
import Derived.Test.YtdocpfbfchaekaaGreatSC
set_option linter.unusedSimpArgs false
set_option linter.unusedVariables false
/- Arguments,opened. -/
namespace Go.Proofs
open Go.Abs
theorem argAgg {P:Program} {t:TypeId} {avs:List AV} (h:(match P.underlying t with|some (.struct _)=>true|_=>false)=true):argAV P t avs=.agg avs:=by
  unfold argAV
  split at h
  · rename_i x;rw [x]
  · cases h
theorem argOne {P:Program} {t:TypeId} {avs:List AV} (h:(match P.underlying t with|some (.struct _)|some (.array _ _)=>false|_=>true)=true):argAV P t avs=avs.headD .junk:=by
  unfold argAV
  split at h
  · cases h
  · cases h
  · rename_i h1 h2
    split
    · rename_i x;exact absurd x (h1 _)
    · rename_i x;exact absurd x (h2 _ _)
    · rfl
theorem rd_of {h:Heap} {id:Nat} {vs:List AV} (hh:h[id]?=some (.cells vs false)):rd h id 0 vs.length=some vs:=by
  simp [rd,hh]
def qStr:List QK:=[.int .i64,.int .i64,.int .i64,.int .i64,.int .i64,.int .i64,.int .i64,.int .u8,.int .i64]
end Go.Proofs
/- Arguments,opened: scales. -/
namespace Go.Proofs
open Go.Abs
theorem rowsTi:∀ (h:Heap) (rows:List (List AV)),(∀ r∈rows,lookL h [.int .i64,.int .i64] r) →
    ∃ l:List Ti,rows.flatten=l.flatMap Ti.av∧l.length=rows.length∧(l.flatMap Ti.av).length=l.length * 2
  | _,[],_=>⟨[],rfl,rfl,rfl⟩
  | h,r :: rs,hr=>by
    obtain⟨l,h1,h2,h4⟩:=rowsTi h rs (fun r' h'=>hr r' (List.mem_cons_of_mem _ h'))
    have h3:=hr r (List.mem_cons_self ..)
    simp only [lookL,QK.look] at h3
    obtain⟨_,_,rfl,⟨a1,rfl,_⟩,_,_,rfl,⟨a2,rfl,_⟩,rfl⟩:=h3
    exact⟨⟨a1,a2⟩ :: l,by simp [h1,Ti.av],by simp [h2],by rw [List.flatMap_cons,List.length_append,h4,Ti.av_length,List.length_cons];omega⟩
end Go.Proofs
/- Arguments,opened: bays and gear. -/
namespace Go.Proofs
open Go.Abs
end Go.Proofs
