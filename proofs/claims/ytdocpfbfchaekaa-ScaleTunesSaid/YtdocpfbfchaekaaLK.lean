/- Several texts as one. -/
import Derived.Test.YtdocpfbfchaekaaDD
import Derived.ProofKit
import Derived.Test.YtdocpfbfchaekaaSA
import Derived.Test.YtdocpfbfchaekaaSD
set_option linter.unusedSimpArgs false
set_option linter.unusedVariables false
/- Arguments,opened. -/
namespace Go.Proofs
open Go.Abs
theorem argAgg {P:Program} {t:TypeId} {avs:List AV} (h:(match P.underlying t with|some (.struct _)=>true|_=>false)=true):argAV P t avs=.agg avs:=by
  unfold argAV
  split at h
  · rename_i x;rw [x]
  · cases h
theorem argOne {P:Program} {t:TypeId} {avs:List AV} (h:(match P.underlying t with|some (.struct _)|some (.array _ _)=>false|_=>true)=true):argAV P t avs=avs.headD .junk:=by
  unfold argAV
  split at h
  · cases h
  · cases h
  · rename_i h1 h2
    split
    · rename_i x;exact absurd x (h1 _)
    · rename_i x;exact absurd x (h2 _ _)
    · rfl
theorem rd_of {h:Heap} {id:Nat} {vs:List AV} (hh:h[id]?=some (.cells vs false)):rd h id 0 vs.length=some vs:=by
  simp [rd,hh]
def qStr:List QK:=[.int .i64,.int .i64,.int .i64,.int .i64,.int .i64,.int .i64,.int .i64,.int .u8,.int .i64]
end Go.Proofs
/- Arguments,opened: scales. -/
namespace Go.Proofs
open Go.Abs
theorem rowsTi:∀ (h:Heap) (rows:List (List AV)),(∀ r∈rows,lookL h [.int .i64,.int .i64] r) →
    ∃ l:List Ti,rows.flatten=l.flatMap Ti.av∧l.length=rows.length∧(l.flatMap Ti.av).length=l.length * 2
  | _,[],_=>⟨[],rfl,rfl,rfl⟩
  | h,r :: rs,hr=>by
    obtain⟨l,h1,h2,h4⟩:=rowsTi h rs (fun r' h'=>hr r' (List.mem_cons_of_mem _ h'))
    have h3:=hr r (List.mem_cons_self ..)
    simp only [lookL,QK.look] at h3
    obtain⟨_,_,rfl,⟨a1,rfl,_⟩,_,_,rfl,⟨a2,rfl,_⟩,rfl⟩:=h3
    exact⟨⟨a1,a2⟩ :: l,by simp [h1,Ti.av],by simp [h2],by rw [List.flatMap_cons,List.length_append,h4,Ti.av_length,List.length_cons];omega⟩
end Go.Proofs
/- Arguments,opened: bays and gear. -/
namespace Go.Proofs
open Go.Abs
theorem rowsBay:∀ (h:Heap) (rows:List (List AV)),(∀ r∈rows,lookL h [.int .i64,.int .i64,.int .i64,.int .i64,.int .i64,.int .i64,.sl [.int .i64,.int .i64]] r) →
    ∃ B:List SP,rows.flatten=B.flatMap SP.av∧B.length=rows.length∧(B.flatMap SP.av).length=B.length * 7∧∀ p∈B,rd h p.tid p.toff (p.s.ts.length * 2)=some (p.s.ts.flatMap Ti.av)
  | _,[],_=>⟨[],rfl,rfl,rfl,by simp⟩
  | h,r :: rs,hr=>by
    obtain⟨B,h1,h2,h4,h5⟩:=rowsBay h rs (fun r' h'=>hr r' (List.mem_cons_of_mem _ h'))
    have h3:=hr r (List.mem_cons_self ..)
    simp only [lookL,QK.look] at h3
    obtain⟨_,_,rfl,⟨a1,rfl,_⟩,_,_,rfl,⟨a2,rfl,_⟩,_,_,rfl,⟨a3,rfl,_⟩,_,_,rfl,⟨a4,rfl,_⟩,_,_,rfl,⟨a5,rfl,_⟩,_,_,rfl,⟨a6,rfl,_⟩,_,_,rfl,⟨id,rows,rfl,_,o,hrr⟩,rfl⟩:=h3
    obtain⟨l,f,n,e⟩:=rowsTi h rows hrr
    rw [f] at o
    have g:=rd_of o
    rw [e] at g
    refine⟨⟨⟨a1,a2,a3,a4,a5,a6,l⟩,id,0,false⟩ :: B,?_,by simp [h2],by rw [List.flatMap_cons,List.length_append,h4,SP.av_length,List.length_cons];omega,fun p hp=>?_⟩
    · simp [h1,SP.av,Sc.av,n]
    · rcases List.mem_cons.1 hp with rfl|hp
      · exact g
      · exact h5 p hp
theorem rowsLd:∀ (h:Heap) (rows:List (List AV)),(∀ r∈rows,lookL h [.int .i64,.int .i64] r) →
    ∃ l:List Ld,rows.flatten=l.flatMap Ld.av∧l.length=rows.length∧(l.flatMap Ld.av).length=l.length * 2
  | _,[],_=>⟨[],rfl,rfl,rfl⟩
  | h,r :: rs,hr=>by
    obtain⟨l,h1,h2,h4⟩:=rowsLd h rs (fun r' h'=>hr r' (List.mem_cons_of_mem _ h'))
    have h3:=hr r (List.mem_cons_self ..)
    simp only [lookL,QK.look] at h3
    obtain⟨_,_,rfl,⟨a1,rfl,_⟩,_,_,rfl,⟨a2,rfl,_⟩,rfl⟩:=h3
    exact⟨⟨a1,a2⟩ :: l,by simp [h1,Ld.av],by simp [h2],by rw [List.flatMap_cons,List.length_append,h4,Ld.av_length,List.length_cons];omega⟩
theorem rowsI6:∀ (h:Heap) (rows:List (List AV)),(∀ r∈rows,lookL h [.int .i64] r)→∃ us:List Int,rows.flatten=iv us∧us.length=rows.length
  | _,[],_=>⟨[],rfl,rfl⟩
  | h,r :: rs,hr=>by
    obtain⟨l,h1,h2⟩:=rowsI6 h rs (fun r' h'=>hr r' (List.mem_cons_of_mem _ h'))
    have h3:=hr r (List.mem_cons_self ..)
    simp only [lookL,QK.look] at h3
    obtain⟨_,_,rfl,⟨a1,rfl,_⟩,rfl⟩:=h3
    exact⟨a1 :: l,by simp [h1,iv],by simp [h2]⟩
theorem ld_at {h:Heap} {id:Nat} {l:List Ld} (o:h[id]?=some (.cells (l.flatMap Ld.av) false)) (e:(l.flatMap Ld.av).length=l.length * 2):LdAt h (.slice id 0 l.length 2 false) l:=⟨e,.inr ⟨id,0,false,rfl,by have:=rd_of o;rwa [e] at this⟩⟩
theorem i6_at {h:Heap} {id:Nat} {l:List Int} (o:h[id]?=some (.cells (iv l) false)):IAt h (.slice id 0 l.length 1 false) l:=⟨by simp [iv],.inr ⟨id,0,false,rfl,by have:=rd_of o;rwa [iv_length,← Nat.mul_one l.length] at this⟩⟩
end Go.Proofs
