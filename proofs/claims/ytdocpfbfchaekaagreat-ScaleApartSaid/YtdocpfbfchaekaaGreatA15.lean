/- A run in the order of the text, operation by operation. -/
import Derived.Test.YtdocpfbfchaekaaGreatMC
namespace Go.Abs
structure Good (P:Program) (ps:List (List Nat)) (al:List AO) (i:Nat) (past:List (Nat × Heap)) (rds:List Rd) (K:St→Prop) (s:St) (c:Cert):Prop where
  hp:c.hp i=s.h
  T:c.T i=s.t
  fin:K ⟨c.T al.length,c.hp al.length⟩
  runs:∀ (j:Nat) (o:AO),i≤j→al[j]?=some o→c.Runs P o j
  reads:∀ (j:Nat) (o:AO),i≤j→al[j]?=some o→c.Reads ps al i al.length o j
  rds:∀ r∈rds,∀ q,i≤q→q≤al.length→(∀ (k:Nat) (ok:AO),i≤k→k<q→al[k]?=some ok→c.HR ok.op k→r.at_ ∉ pr ps k)→r.op.sem (AOpd.ev r.t) (c.hp q) (fun v' _=>v'=r.v)
  past:∀ (j:Nat) (o:AO),i≤j→al[j]?=some o→o.op.cls=1→c.sk j=false→∀ p∈past,p.1 ∉ pr ps j→o.op.sem (AOpd.ev (c.T j)) p.2 (fun v' _=>v'=c.v j)
def upd {α:Type} (f:Nat→α) (i:Nat) (x:α):Nat→α:=fun j=>if j=i then x else f j
theorem upd_same {α:Type} (f:Nat→α) (i:Nat) (x:α):upd f i x i=x:=by simp [upd]
theorem upd_ne {α:Type} (f:Nat→α) {i j:Nat} (x:α) (h:j≠i):upd f i x j=f j:=by simp [upd,h]
def Cert.cons (c:Cert) (i:Nat) (v:AV) (h:Heap) (sk:Bool) (T:List (Nat × AV)):Cert:=⟨upd c.v i v,upd c.hp i h,upd c.sk i sk,upd c.T i T⟩
theorem put_t (s:St) (d:Option Nat) (v:AV) (h:Heap):(s.put d v h).t=(match d with|some d=>(d,v) :: s.t|none=>s.t):=by cases d <;> rfl
section
variable {P:Program} {rnd:Rn} {ps:List (List Nat)} {al:List AO} {i:Nat} {K:St→Prop} {s:St} {o:AO}
theorem runs_cons {c:Cert} {x:AV} {h:Heap} {b:Bool} {t:List (Nat × AV)} {j:Nat} {oj:AO} (hj:i<j) (hr:c.Runs P oj j):(c.cons i x h b t).Runs P oj j:=by
  unfold Cert.Runs at hr ⊢
  simp only [Cert.cons,upd_ne _ _ (show j≠i by omega),upd_ne _ _ (show j+1≠i by omega)]
  exact hr
theorem Good.cons {past past':List (Nat × Heap)} {rds rds':List Rd} {x:AV} {h':Heap} {b:Bool} {c:Cert} (hi:al[i]?=some o)
    (g:Good P ps al (i+1) past' rds' K (s.put o.dst x h') c)
    (hrun:(c.cons i x s.h b s.t).Runs P o i)
    (hread:∀ (j:Nat) (oj:AO),i<j→al[j]?=some oj→oj.op.cls=1→c.sk j=false→2≤o.op.cls→b=false→i ∉ pr ps j→oj.op.sem (AOpd.ev (c.T j)) s.h (fun v' _=>v'=c.v j))
    (hown:o.op.cls=1→b=false→o.op.sem (AOpd.ev s.t) s.h (fun v' _=>v'=x)∧(∀ q,i<q→q≤al.length→(∀ (k:Nat) (ok:AO),i<k→k<q→al[k]?=some ok→c.HR ok.op k→i ∉ pr ps k) →
      o.op.sem (AOpd.ev s.t) (c.hp q) (fun v' _=>v'=x))∧∀ p∈past,p.1 ∉ pr ps i→o.op.sem (AOpd.ev s.t) p.2 (fun v' _=>v'=x))
    (hrds:∀ r∈rds,r.op.sem (AOpd.ev r.t) s.h (fun v' _=>v'=r.v)∧((2≤o.op.cls∧b=false→r.at_ ∉ pr ps i)→r∈rds'))
    (hpast:∀ p∈past,p∈past'):Good P ps al i past rds K s (c.cons i x s.h b s.t):=by
  have hlt:=get_some_lt hi
  have e1:∀ j,j≠i→(c.cons i x s.h b s.t).v j=c.v j:=fun j hj=>upd_ne _ _ hj
  have e2:∀ j,j≠i→(c.cons i x s.h b s.t).hp j=c.hp j:=fun j hj=>upd_ne _ _ hj
  have e3:∀ j,j≠i→(c.cons i x s.h b s.t).sk j=c.sk j:=fun j hj=>upd_ne _ _ hj
  have e4:∀ j,j≠i→(c.cons i x s.h b s.t).T j=c.T j:=fun j hj=>upd_ne _ _ hj
  have f1:(c.cons i x s.h b s.t).v i=x:=upd_same _ _ _
  have f2:(c.cons i x s.h b s.t).hp i=s.h:=upd_same _ _ _
  have f3:(c.cons i x s.h b s.t).sk i=b:=upd_same _ _ _
  have f4:(c.cons i x s.h b s.t).T i=s.t:=upd_same _ _ _
  have hHR:∀ (op:AOp) k,k≠i→((c.cons i x s.h b s.t).HR op k↔c.HR op k):=fun op k hk=>by unfold Cert.HR;rw [e3 k hk]
  refine⟨f2,f4,?_,?_,?_,?_,?_⟩
  · rw [e4 _ (by omega),e2 _ (by omega)];exact g.fin
  · intro j oj hj ho
    rcases Nat.lt_or_ge i j with h|h
    · exact runs_cons h (g.runs j oj h ho)
    · have:j=i:=by omega
      subst this
      rw [hi] at ho;simp only [Option.some.injEq] at ho;subst ho
      exact hrun
  · intro j oj hj ho hcls hsk q hq1 hq2 hq3 hq4
    rcases Nat.lt_or_ge i j with hij|hij
    · rw [e3 j (by omega)] at hsk
      rw [e4 j (by omega),e1 j (by omega)]
      rcases Nat.lt_or_ge i q with hiq|hiq
      · rw [e2 q (by omega)]
        refine g.reads j oj hij ho hcls hsk q hiq hq2 ?_ ?_
        · rcases hq3 with h|h|⟨⟨oq,h1,h2⟩,h3⟩
          · exact .inl h
          · exact .inr (.inl h)
          · exact .inr (.inr ⟨⟨oq,h1,(hHR _ q (by omega)).1 h2⟩,h3⟩)
        · intro k ok hk1 hk2 hk3 hk4
          exact hq4 k ok (by omega) hk2 hk3 ((hHR _ k (by omega)).2 hk4)
      · have:q=i:=by omega
        subst this
        rw [f2]
        rcases hq3 with h|h|⟨⟨oq,h1,h2⟩,h3⟩
        · omega
        · omega
        · rw [hi] at h1;simp only [Option.some.injEq] at h1;subst h1
          unfold Cert.HR at h2
          rw [f3] at h2
          exact hread j oj hij ho hcls hsk h2.1 h2.2 h3
    · have:j=i:=by omega
      subst this
      rw [hi] at ho;simp only [Option.some.injEq] at ho;subst ho
      rw [f3] at hsk
      rw [f4,f1]
      obtain⟨o1,o2,_⟩:=hown hcls hsk
      rcases Nat.lt_or_ge j q with hiq|hiq
      · rw [e2 q (by omega)]
        refine o2 q hiq hq2 ?_
        intro k ok hk1 hk2 hk3 hk4
        exact hq4 k ok (by omega) hk2 hk3 ((hHR _ k (by omega)).2 hk4)
      · have:q=j:=by omega
        subst this
        rw [f2];exact o1
  · intro r hr q hq1 hq2 hq3
    obtain⟨r1,r2⟩:=hrds r hr
    rcases Nat.lt_or_ge i q with hiq|hiq
    · rw [e2 q (by omega)]
      refine g.rds r (r2 ?_) q hiq hq2 ?_
      · rintro⟨h1,h2⟩
        exact hq3 i o (Nat.le_refl _) hiq hi ⟨h1,by rw [f3];exact h2⟩
      · intro k ok hk1 hk2 hk3 hk4
        exact hq3 k ok (by omega) hk2 hk3 ((hHR _ k (by omega)).2 hk4)
    · have:q=i:=by omega
      subst this
      rw [f2];exact r1
  · intro j oj hj ho hcls hsk p hp hpn
    rcases Nat.lt_or_ge i j with hij|hij
    · rw [e3 j (by omega)] at hsk
      rw [e4 j (by omega),e1 j (by omega)]
      exact g.past j oj hij ho hcls hsk p (hpast p hp) hpn
    · have:j=i:=by omega
      subst this
      rw [hi] at ho;simp only [Option.some.injEq] at ho;subst ho
      rw [f3] at hsk
      rw [f4,f1]
      exact (hown hcls hsk).2.2 p hp hpn
theorem DAO.good (P:Program) (ps:List (List Nat)) (al:List AO) (K:St→Prop):∀ (os:List AO) (i:Nat) (past:List (Nat × Heap)) (rds:List Rd) (s:St),al.drop i=os→i≤al.length→DAO.wp P ps os i past rds K s →
    (∀ r∈rds,r.op.cls=1∧r.op.sem (AOpd.ev r.t) s.h (fun v' _=>v'=r.v))→∃ c,Good P ps al i past rds K s c
  | [],i,past,rds,s,hd,hle,hw,hr=>by
    have hn:i=al.length:=by
      have:=congrArg List.length hd
      simp at this;omega
    subst hn
    simp only [DAO.wp] at hw
    refine⟨⟨fun _=>.junk,fun _=>s.h,fun _=>false,fun _=>s.t⟩,rfl,rfl,hw,?_,?_,?_,?_⟩
    · intro j o hj ho;have:=get_some_lt ho;omega
    · intro j o hj ho;have:=get_some_lt ho;omega
    · intro r hrr q _ _ _;exact (hr r hrr).2
    · intro j o hj ho;have:=get_some_lt ho;omega
  | o :: os,i,past,rds,s,hd,hle,hw,hr=>by
    have hi:al[i]?=some o:=by
      have:(al.drop i)[0]?=some o:=by rw [hd];rfl
      simpa using this
    have hlt:=get_some_lt hi
    have hd':al.drop (i+1)=os:=by rw [← List.drop_drop,hd];rfl
    have skip:(∃ g want,o.guard=some (g,want)∧(lk s.t g=.tuple []∨∃ b,lk s.t g=.bool b∧b≠want))→DAO.wp P ps os (i+1) past rds K (s.put o.dst (.tuple []) s.h)→∃ c,Good P ps al i past rds K s c:=by
      intro hgd hw'
      obtain⟨c,g⟩:=DAO.good P ps al K os (i+1) past rds _ hd' hlt hw' (fun r hrr=>by rw [put_h];exact hr r hrr)
      refine⟨_,g.cons (b:=true) hi ?_ (fun _ _ _ _ _ _ _ hb=>by cases hb) (fun _ hb=>by cases hb) (fun r hrr=>⟨(hr r hrr).2,fun _=>hrr⟩) (fun p hp=>hp)⟩
      refine⟨?_,.inl ⟨upd_same _ _ _,upd_same _ _ _,?_,?_⟩⟩
      · show upd c.T i s.t (i+1)=_
        rw [upd_ne _ _ (by omega),g.T,put_t]
        simp only [Cert.cons,upd_same]
        cases o.dst <;> rfl
      · show upd c.hp i s.h (i+1)=upd c.hp i s.h i
        rw [upd_ne _ _ (by omega),g.hp,put_h,upd_same]
      · simp only [Cert.cons,upd_same];exact hgd
    have run:(o.guard=none∨∃ g want,o.guard=some (g,want)∧lk s.t g=.bool want)→DAO.wp.run P ps o os i past rds K s→∃ c,Good P ps al i past rds K s c:=by
      intro hgd hw'
      unfold DAO.wp.run at hw'
      have tstep:∀ (c:Cert) (x:AV) (h':Heap) (b:Bool),c.T (i+1)=(s.put o.dst x h').t→(c.cons i x s.h b s.t).T (i+1)=(match o.dst with|some d=>(d,(c.cons i x s.h b s.t).v i) :: (c.cons i x s.h b s.t).T i|none=>(c.cons i x s.h b s.t).T i):=by
        intro c x h' b hT
        show upd c.T i s.t (i+1)=_
        rw [upd_ne _ _ (by omega),hT,put_t]
        simp only [Cert.cons,upd_same]
      have hgd':∀ (c:Cert) (x:AV) (b:Bool),(o.guard=none∨∃ g want,o.guard=some (g,want)∧lk ((c.cons i x s.h b s.t).T i) g=.bool want):=by
        intro c x b;simp only [Cert.cons,upd_same];exact hgd
      split at hw'
      · rename_i hcls
        obtain⟨v,h',hK,hsem⟩:=sem_ex hw'
        obtain⟨c,g⟩:=DAO.good P ps al K os (i+1) past rds _ hd' hlt hK (fun r hrr=>by rw [put_h];exact hr r hrr)
        refine⟨_,g.cons (b:=false) hi ⟨tstep c v _ false g.T,.inr ⟨upd_same _ _ _,hgd' c v false,.inl ⟨hcls,?_,?_⟩⟩⟩ (fun _ _ _ _ _ _ h2=>by omega) (fun h1=>by omega)
          (fun r hrr=>⟨(hr r hrr).2,fun _=>hrr⟩) (fun p hp=>hp)⟩
        · show upd c.hp i s.h (i+1)=upd c.hp i s.h i
          rw [upd_ne _ _ (by omega),g.hp,put_h,upd_same]
        · simp only [Cert.cons,upd_same]
          have:=sem_pure (h2:=s.h) hcls hsem
          exact this.2
      · rename_i hcls
        obtain⟨v,h',⟨hrp,hK⟩,hsem⟩:=sem_ex hw'
        have hh:=sem_read_heap hcls hsem
        subst hh
        have hself:o.op.sem (AOpd.ev s.t) s.h (fun v' _=>v'=v):=sem_weak (fun _ _ h=>h.1) hsem
        obtain⟨c,g⟩:=DAO.good P ps al K os (i+1) past (⟨i,o.op,s.t,v⟩ :: rds) _ hd' hlt hK (fun r hrr=>by
          rw [put_h]
          rcases List.mem_cons.1 hrr with rfl|hrr
          · exact⟨hcls,hself⟩
          · exact hr r hrr)
        refine⟨_,g.cons (b:=false) hi ⟨tstep c v _ false g.T,.inr ⟨upd_same _ _ _,hgd' c v false,.inr (.inl ⟨hcls,?_⟩)⟩⟩ (fun _ _ _ _ _ _ h2=>by omega) ?_
          (fun r hrr=>⟨(hr r hrr).2,fun _=>List.mem_cons_of_mem _ hrr⟩) (fun p hp=>hp)⟩
        · show upd c.hp i s.h (i+1)=upd c.hp i s.h i
          rw [upd_ne _ _ (by omega),g.hp,put_h,upd_same]
        · intro _ _
          refine⟨hself,fun q hq1 hq2 hq3=>?_,fun p hp hpn=>repast_mem hrp p hp hpn⟩
          exact g.rds ⟨i,o.op,s.t,v⟩ (by simp) q hq1 hq2 (fun k ok hk1 hk2 hk3 hk4=>hq3 k ok (by omega) hk2 hk3 hk4)
      · rename_i hcls
        obtain⟨hsc,hw'⟩:=hw'
        obtain⟨v,h',⟨hrc,hK⟩,hsem⟩:=sem_ex hw'
        obtain⟨c,g⟩:=DAO.good P ps al K os (i+1) _ _ _ hd' hlt hK (fun r hrr=>by
          rw [put_h]
          simp only [List.mem_filter,Bool.not_eq_true',List.contains_eq_mem,decide_eq_false_iff_not] at hrr
          exact⟨(hr r hrr.1).1,recheck_mem hrc r hrr.1 hrr.2⟩)
        refine⟨_,g.cons (b:=false) hi ⟨tstep c v _ false g.T,.inr ⟨upd_same _ _ _,hgd' c v false,.inr (.inr (.inl ⟨hcls,?_,by simp only [Cert.cons,upd_same];exact hsc⟩))⟩⟩ ?_ (fun h1=>by omega)
          (fun r hrr=>⟨(hr r hrr).2,fun hne=>?_⟩) (fun p hp=>List.mem_cons_of_mem _ hp)⟩
        · simp only [Cert.cons,upd_same]
          rw [upd_ne _ _ (by omega),g.hp,put_h];exact hsem
        · intro j oj hij ho h1 h2 _ _ h3
          exact g.past j oj hij ho h1 h2 (i,s.h) (by simp) h3
        · simp only [List.mem_filter,Bool.not_eq_true',List.contains_eq_mem,decide_eq_false_iff_not]
          exact⟨hrr,hne ⟨by omega,rfl⟩⟩
      · rename_i c0 h0 h1 h2
        have hcls:o.op.cls=3:=by
          have:=cls_le o.op
          have h0':¬ o.op.cls=0:=h0
          have h1':¬ o.op.cls=1:=h1
          have h2':¬ o.op.cls=2:=h2
          omega
        obtain⟨hsc,hw'⟩:=hw'
        obtain⟨v,h',⟨hlen,hrc,hK⟩,hsem⟩:=eff_ex hcls hw'
        obtain⟨c,g⟩:=DAO.good P ps al K os (i+1) _ _ _ hd' hlt hK (fun r hrr=>by
          rw [put_h]
          simp only [List.mem_filter,Bool.not_eq_true',List.contains_eq_mem,decide_eq_false_iff_not] at hrr
          exact⟨(hr r hrr.1).1,recheck_mem hrc r hrr.1 hrr.2⟩)
        refine⟨_,g.cons (b:=false) hi ⟨tstep c v _ false g.T,.inr ⟨upd_same _ _ _,hgd' c v false,.inr (.inr (.inr ⟨hcls,?_,?_,by simp only [Cert.cons,upd_same];exact hsc⟩))⟩⟩ ?_ (fun h1=>by omega)
          (fun r hrr=>⟨(hr r hrr).2,fun hne=>?_⟩) (fun p hp=>List.mem_cons_of_mem _ hp)⟩
        · simp only [Cert.cons,upd_same]
          rw [upd_ne _ _ (by omega),g.hp,put_h];exact hsem
        · simp only [Cert.cons,upd_same]
          rw [upd_ne _ _ (by omega),g.hp,put_h];exact hlen
        · intro j oj hij ho h1 h2 _ _ h3
          exact g.past j oj hij ho h1 h2 (i,s.h) (by simp) h3
        · simp only [List.mem_filter,Bool.not_eq_true',List.contains_eq_mem,decide_eq_false_iff_not]
          exact⟨hrr,hne ⟨by omega,rfl⟩⟩
    simp only [DAO.wp] at hw
    split at hw
    · rename_i hg;exact run (.inl hg) hw
    · rename_i g want hg
      split at hw
      · rename_i b hb
        split at hw
        · rename_i hbw;subst hbw;exact run (.inr ⟨g,b,hg,hb⟩) hw
        · rename_i hbw;exact skip ⟨g,want,hg,.inr ⟨b,hb,hbw⟩⟩ hw
      · rename_i hb;exact skip ⟨g,want,hg,.inl hb⟩ hw
      · cases hw
end
end Go.Abs
