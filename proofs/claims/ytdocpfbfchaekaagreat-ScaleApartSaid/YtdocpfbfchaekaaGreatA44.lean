/- The laws of reckoning in one form, with short names. -/
import Derived.Test.YtdocpfbfchaekaaGreatA43
namespace Go.Abs
section
variable {P:Program} {ps:List (List Nat)} {H h h':Heap} {Q:Exit→St→Prop} {K:St→Prop} {t t':List (Nat × AV)} {d i:Nat} {l:List AO} {op:AOp} {v:AV} {past:List (Nat × Heap)} {rds:List Rd} {c:Prop} {r:Den} {g:Nat}
theorem O1 (hc:op.isCall=false) (hr:Red (op.den (AOpd.ev t) h) r) (he:Red r (.ok c v h')) (hp:c) (hn:EOps P l K ((d,v) :: t) h'):EOps P (⟨some d,op,none⟩ :: l) K t h:=e_op hc hr he hp hn
theorem O2 (hc:op.isCall=false) (hr:Red (op.den (AOpd.ev t) h) r) (he:Red r (.ok c v h')) (hp:c) (hn:EOps P l K t h'):EOps P (⟨none,op,none⟩ :: l) K t h:=e_do hc hr he hp hn
theorem P1 (hk:op.cls=0) (hr:Red (op.den (AOpd.ev t) h) r) (he:Red r (.ok c v h')) (hp:c) (hn:EDraw P ps l (i+1) past rds K ((d,v) :: t) h):EDraw P ps (⟨some d,op,none⟩ :: l) i past rds K t h:=d_pure hk hr he hp hn
theorem P2 (hk:(op.cls == 1 && past.all fun p=>(pr ps i).contains p.1)=true) (hr:Red (op.den (AOpd.ev t) h) r) (he:Red r (.ok c v h')) (hp:c) (hn:EDraw P ps l (i+1) past (⟨i,op,t,v⟩ :: rds) K ((d,v) :: t) h) :
    EDraw P ps (⟨some d,op,none⟩ :: l) i past rds K t h:=by
  simp only [Bool.and_eq_true,beq_iff_eq] at hk
  exact d_read hk.1 hk.2 hr he hp hn
theorem P3 (hk:op.cls=2) (hr:Red (op.den (AOpd.ev t) h) r) (he:Red r (.ok c v h')) (hp:c∧(op.slots.all fun k=>(lk t k).sc h.length)=true) (hn:EDraw P ps l (i+1) ((i,h) :: past) (rds.filter fun r=>!(pr ps i).contains r.at_) K ((d,v) :: t) h') :
    EDraw P ps (⟨some d,op,none⟩ :: l) i past rds K t h:=d_new hk hr he hp.1 hp.2 hn
theorem P4 (hk:(op.cls == 3 && !op.isCall && rds.all fun r=>(pr ps i).contains r.at_)=true) (hr:Red (op.den (AOpd.ev t) h) r) (he:Red r (.ok c v h')) (hp:c∧(op.slots.all fun k=>(lk t k).sc h.length)=true∧h.length≤h'.length)
    (hn:EDraw P ps l (i+1) ((i,h) :: past) (rds.filter fun r=>!(pr ps i).contains r.at_) K t h'):EDraw P ps (⟨none,op,none⟩ :: l) i past rds K t h:=by
  simp only [Bool.and_eq_true,beq_iff_eq,Bool.not_eq_true'] at hk
  exact d_do hk.1.1 hk.1.2 hk.2 hr he hp.1 hp.2.1 hp.2.2 hn
theorem P5 (hk:(op.cls == 3 && !op.isCall && rds.all fun r=>(pr ps i).contains r.at_)=true) (hr:Red (op.den (AOpd.ev t) h) r) (he:Red r (.ok c v h')) (hp:c∧(op.slots.all fun k=>(lk t k).sc h.length)=true∧h.length≤h'.length)
    (hn:EDraw P ps l (i+1) ((i,h) :: past) (rds.filter fun r=>!(pr ps i).contains r.at_) K ((d,v) :: t) h'):EDraw P ps (⟨some d,op,none⟩ :: l) i past rds K t h:=by
  simp only [Bool.and_eq_true,beq_iff_eq,Bool.not_eq_true'] at hk
  exact d_set hk.1.1 hk.1.2 hk.2 hr he hp.1 hp.2.1 hp.2.2 hn
theorem P6 (hk:op.cls=1) (hr:Red (op.den (AOpd.ev t) h) r) (he:Red r (.ok c v h')) (hp:c∧∀ p∈past,p.1∈pr ps i∨p.2=h)
    (hn:EDraw P ps l (i+1) past (⟨i,op,t,v⟩ :: rds) K ((d,v) :: t) h):EDraw P ps (⟨some d,op,none⟩ :: l) i past rds K t h:=by
  obtain⟨hp,hpast⟩:=hp
  refine d_read_ hk hr he hp ?_ hn
  have hd:op.den (AOpd.ev t) h=.ok c v h':=hr.trans he
  have h0:op.sem (AOpd.ev t) h (fun v' _=>v'=v):=sem_den _ _ _ _ (by rw [hd];exact⟨hp,rfl⟩)
  clear hn
  induction past with
  | nil=>trivial
  | cons p past ih =>
    refine⟨fun hn=>?_,ih fun q hq=>hpast q (List.mem_cons_of_mem _ hq)⟩
    rcases hpast p (List.mem_cons_self ..) with h1|h1
    · exact absurd h1 hn
    · rw [h1];exact h0
theorem P7 (hk:op.cls=1) (hr:Red (op.den (AOpd.ev t) h) r) (he:Red r (.ok c v h')) (hp:c∧repast ps i op t v past)
    (hn:EDraw P ps l (i+1) past (⟨i,op,t,v⟩ :: rds) K ((d,v) :: t) h):EDraw P ps (⟨some d,op,none⟩ :: l) i past rds K t h:=d_read_ hk hr he hp.1 hp.2 hn
theorem Z1 (hb:Red (lk t g) (.bool false)) (h2:EOps P l K ((d,.tuple []) :: t) h):EOps P (⟨some d,op,some (g,true)⟩ :: l) K t h:=e_no hb (by decide) h2
theorem Z2 (hb:Red (lk t g) (.bool true)) (h2:EOps P l K ((d,.tuple []) :: t) h):EOps P (⟨some d,op,some (g,false)⟩ :: l) K t h:=e_no hb (by decide) h2
theorem Z3 (hb:Red (lk t g) (.bool false)) (h2:EOps P l K t h):EOps P (⟨none,op,some (g,true)⟩ :: l) K t h:=e_no' hb (by decide) h2
theorem Z4 (hb:Red (lk t g) (.bool true)) (h2:EOps P l K t h):EOps P (⟨none,op,some (g,false)⟩ :: l) K t h:=e_no' hb (by decide) h2
theorem Z5 (hb:Red (lk t g) (.bool false)) (h2:EDraw P ps l (i+1) past rds K ((d,.tuple []) :: t) h):EDraw P ps (⟨some d,op,some (g,true)⟩ :: l) i past rds K t h:=d_no hb (by decide) h2
theorem Z6 (hb:Red (lk t g) (.bool true)) (h2:EDraw P ps l (i+1) past rds K ((d,.tuple []) :: t) h):EDraw P ps (⟨some d,op,some (g,false)⟩ :: l) i past rds K t h:=d_no hb (by decide) h2
end
abbrev X1:=@e_seq
abbrev X2:=@e_ops
abbrev X3:=@e_ret
abbrev X4:=@e_exit
abbrev X5:=@e_skip
abbrev X6:=@e_block
abbrev X7:=@e_scope
abbrev X8:=@q_then
abbrev X9:=@q_ret
abbrev Y1:=@q_exit
abbrev Y2:=@q_block
abbrev Y3:=@q_block_ret
abbrev Y4:=@q_block_exit
abbrev Y5:=@q_again_ret
abbrev Y6:=@q_again_exit
abbrev Y7:=@q_scope
abbrev Y8:=@q_scope_ret
abbrev Y9:=@d_start
abbrev Z7:=@e_yes
abbrev Z8:=@d_yes
abbrev Z9:=@e_true
abbrev W1:=@e_un
abbrev W2:=@d_un
abbrev W3:=@e_false
end Go.Abs
