/- The abstract machine, run for the kernel: operations leave what they leave. -/
import Derived.Test.YtdocpfbfchaekaaGreatA27
namespace Go.Abs
open Go.RowKit
section
theorem opt_yes {b:Bool} {x:Option RT} {r:RT} (h:yes b x none=some r):b=true∧x=some r:=by
  cases b
  · cases h
  · exact⟨rfl,h⟩
def FxS (o:AOp) (t:List (Nat × AV)) (tr:Tr) (s:Nat) (K:Kt) (r:RT):Prop:=∃ v tr' s',K v tr' s'=some r∧o.fx (AOpd.ev t) (ab tr s)=some (v,ab tr' s')
theorem slowT_some {o:AOp} {t:List (Nat × AV)} {tr:Tr} {s:Nat} {K:Kt} {r:RT} (h:slowT o t tr s K=some r):FxS o t tr s K r:=by
  unfold slowT at h
  rw [yes_eq] at h
  split at h
  · rename_i hc
    split at h
    · rename_i v h' hf
      rw [fV_eq] at h
      exact⟨v,tr,s,h,fx_pure (by simpa using hc) hf⟩
    · cases h
  · cases h
theorem fxT_some {o:AOp} {t:List (Nat × AV)} {tr:Tr} {s:Nat} {K:Kt} {r:RT} (h:fxT o t tr s K=some r):FxS o t tr s K r:=by
  cases o
  case mov x =>
    simp only [fxT,wV_eq,evR_eq] at h
    exact⟨_,_,_,h,rfl⟩
  case pick c a b =>
    simp only [fxT,wV_eq,evR_eq] at h
    split at h
    · rename_i hc;exact⟨_,_,_,h,by simp only [AOp.fx,hc]⟩
    · rename_i hc;exact⟨_,_,_,h,by simp only [AOp.fx,hc]⟩
    · cases h
  case alloc zs =>
    simp only [fxT] at h
    obtain⟨tr',h1,h2⟩:=newT_some h
    exact⟨_,_,_,h1,by simp only [AOp.fx,h2,ab_len]⟩
  case box x =>
    simp only [fxT,cellsR_eq,evR_eq] at h
    split at h
    · rename_i cs hcs
      obtain⟨tr',h1,h2⟩:=newT_some h
      exact⟨_,_,_,h1,by simp only [AOp.fx,hcs,h2,ab_len]⟩
    · cases h
  case build zs ps =>
    simp only [fxT,fillR_eq] at h
    split at h
    · rename_i cs hcs;exact⟨_,_,_,h,by simp only [AOp.fx,hcs]⟩
    · cases h
  case buildSlice zs ps ln sz =>
    simp only [fxT,fillR_eq] at h
    split at h
    · rename_i cs hcs
      obtain⟨tr',h1,h2⟩:=newT_some h
      exact⟨_,_,_,h1,by simp only [AOp.fx,hcs,h2,ab_len]⟩
    · cases h
  case load1 a =>
    simp only [fxT,evR_eq,rd1T_eq] at h
    split at h
    · rename_i id off hp
      split at h
      · rename_i v hv;exact⟨_,_,_,h,by simp only [AOp.fx,hp,hv]⟩
      · cases h
    · cases h
  case loadN a n =>
    simp only [fxT,evR_eq,rdT_eq] at h
    split at h
    · rename_i id off hp
      split at h
      · rename_i v hv;exact⟨_,_,_,h,by simp only [AOp.fx,hp,hv]⟩
      · cases h
    · cases h
  case store a n x =>
    simp only [fxT,evR_eq,cellsR_eq,yes_eq,allR_eq,lenR_eq,Nat.beq_eq] at h
    split at h
    · rename_i id off hp
      split at h
      · rename_i vs hvs
        split at h
        · rename_i h1
          split at h
          · rename_i h2
            obtain⟨tr',h3,h4⟩:=wrT_some h
            exact⟨_,_,_,h4,by simp only [AOp.fx,hp,hvs,h1,h2,h3,and_self,if_true]⟩
          · cases h
        · cases h
      · cases h
    · cases h
  case nilCheck x =>
    simp only [fxT,evR_eq] at h
    split at h
    · rename_i hp;exact⟨_,_,_,h,by simp only [AOp.fx,hp]⟩
    · rename_i hp;exact⟨_,_,_,h,by simp only [AOp.fx,hp]⟩
    · cases h
  case bin op x y =>
    cases op <;> simp only [fxT,binR_eq,evR_eq] at h <;> first
      | exact slowT_some h
      | (split at h
         · rename_i v hv;exact⟨_,_,_,h,by simp only [AOp.fx,hv]⟩
         · cases h)
  case not x =>
    simp only [fxT,evR_eq,fB_eq] at h
    split at h
    · rename_i b hp;exact⟨_,_,_,h,by simp only [AOp.fx,hp]⟩
    · cases h
  case mkfn f a b =>
    simp only [fxT,evsR_eq] at h
    exact⟨_,_,_,h,rfl⟩
  case fieldAddr x off =>
    simp only [fxT,evR_eq,fN_eq] at h
    split at h
    · rename_i hp;exact⟨_,_,_,h,by simp only [AOp.fx,hp]⟩
    · cases h
  case field1 x off =>
    simp only [fxT,evR_eq,getR_eq,wV_eq] at h
    split at h
    · rename_i cs hp
      split at h
      · rename_i v hv;exact⟨_,_,_,h,by simp only [AOp.fx,hp,hv]⟩
      · cases h
    · cases h
  case fieldN x off n =>
    simp only [fxT,evR_eq,takeR_eq,dropR_eq] at h
    split at h
    · rename_i cs hp;exact⟨_,_,_,h,by simp only [AOp.fx,hp]⟩
    · cases h
  case idxSl x i sz =>
    simp only [fxT,evR_eq,yes_eq,fN_eq,ile_eq,Nat.beq_eq,decide_eq_true_eq,Bool.not_eq_true',decide_eq_false_iff_not,Int.not_le] at h
    split at h
    · rename_i id off ln sz' ex k n hx hi
      split at h
      · rename_i h1
        split at h
        · rename_i h2
          split at h
          · rename_i h3;exact⟨_,_,_,h,by simp only [AOp.fx,hx,hi,h1,h2,h3,and_self,if_true]⟩
          · cases h
        · cases h
      · cases h
    · cases h
  case idxArr x i ln sz =>
    simp only [fxT,evR_eq,yes_eq,fN_eq,ile_eq,decide_eq_true_eq,Bool.not_eq_true',decide_eq_false_iff_not,Int.not_le] at h
    split at h
    · rename_i id off k n hx hi
      split at h
      · rename_i h2
        split at h
        · rename_i h3;exact⟨_,_,_,h,by simp only [AOp.fx,hx,hi,h2,h3,and_self,if_true]⟩
        · cases h
      · cases h
    · cases h
  case extract x i =>
    simp only [fxT,evR_eq,getR_eq,wV_eq] at h
    split at h
    · rename_i cs hp
      split at h
      · rename_i v hv;exact⟨_,_,_,h,by simp only [AOp.fx,hp,hv]⟩
      · cases h
    · cases h
  case len x =>
    simp only [fxT,evR_eq] at h
    split at h
    · rename_i hp;exact⟨_,_,_,h,by simp only [AOp.fx,hp];rfl⟩
    · rename_i hp;exact⟨_,_,_,h,by simp only [AOp.fx,hp];rfl⟩
    · cases h
  case append x y sz bytes =>
    simp only [fxT,evR_eq,slT_eq,yes_eq,allR_eq,fN_eq,appR_eq,Nat.ble_eq,Nat.beq_eq] at h
    obtain⟨⟨n,old⟩,hx,h⟩:=opt_some h
    obtain⟨⟨m,new⟩,hy,h⟩:=opt_some h
    simp only at h
    split at h
    · rename_i h1
      split at h
      · rename_i h2
        have h2':(n+m) * bytes≤140737488355328:=h2
        split at h
        · rename_i hv
          obtain⟨tr',h3,h4⟩:=newT_some h
          exact⟨_,_,_,h3,by simp only [AOp.fx,hv,h4,ab_len] at hx hy ⊢;rw [hx,hy];simp only [h1,h2',and_self,if_true]⟩
        · rename_i id off l sz' ex hv
          rw [obT_eq] at h
          split at h
          · rename_i vs hob
            split at h
            · rename_i h5
              obtain⟨tr1,h6,h7⟩:=setT_some h
              obtain⟨tr',h3,h4⟩:=newT_some h6
              rw [ab_set h7] at h4
              refine⟨_,_,_,h3,?_⟩
              rw [hv] at hx
              subst h5
              simp only [AOp.fx,hv,hx,hy,h1,h2',and_self,if_true,hob,h4,ab_len]
            · cases h
          · cases h
        · cases h
      · cases h
    · cases h
  case makeSl zs sz bytes ln cp =>
    simp only [fxT,evR_eq,yes_eq,fN_eq,fB_eq,ile_eq,ieq_eq,repR_eq,decide_eq_true_eq] at h
    split at h
    · rename_i k n k' c hx hy
      split at h
      · rename_i h1
        split at h
        · rename_i h2
          split at h
          · rename_i h3
            split at h
            · rename_i h4
              obtain⟨tr',h5,h6⟩:=newT_some h
              exact⟨_,_,_,h5,by simp only [AOp.fx,hx,hy,h1,h2,h3,h4,and_self,if_true,h6,ab_len]⟩
            · cases h
          · cases h
        · cases h
      · cases h
    · cases h
  case appZ zs sz bytes x n =>
    simp only [fxT,evR_eq,yes_eq,fN_eq,ile_eq,repR_eq,decide_eq_true_eq] at h
    split at h
    · rename_i k m hx hy
      split at h
      · rename_i h1
        split at h
        · rename_i h2
          have h2':m.toNat * bytes≤140737488355328:=Nat.le_of_ble_eq_true h2
          obtain⟨tr',h5,h6⟩:=newT_some h
          exact⟨_,_,_,h5,by simp only [AOp.fx,hx,hy];rw [if_pos ⟨by omega,h2'⟩,h6,ab_len]⟩
        · cases h
      · cases h
    · cases h
  case makeMap =>
    simp only [fxT,fN_eq] at h
    obtain⟨tr',h1,h2⟩:=setT_some h
    exact⟨_,_,_,h1,by simp only [AOp.fx];rw [show s.succ=s+1 from rfl,ab_push h2,ab_len]⟩
  case mapGet ok z k m i =>
    simp only [fxT,evR_eq,wV_eq,keyR_eq,mapT_eq,findR_eq,getR_eq] at h
    obtain⟨b,hb,h⟩:=opt_some h
    obtain⟨es,hes,h⟩:=opt_some h
    obtain⟨f,hf,h⟩:=opt_some h
    cases f with
    | none=>exact⟨_,_,_,h,by simp only [AOp.fx,hb,hes,hf,Option.isSome_some,if_true]⟩
    | some n =>
      simp only [Option.map_some,Nat.zero_add] at h
      obtain⟨p,hp,h⟩:=opt_some h
      exact⟨_,_,_,h,by simp only [AOp.fx,hb,hes,hf,hp,Option.isSome_some,if_true]⟩
  case mapPut k m i x =>
    simp only [fxT,evR_eq,wV_eq,keyR_eq,findR_eq,setR_eq,appR_eq,fN_eq] at h
    obtain⟨b,hb,h⟩:=opt_some h
    obtain⟨id,es,bs,c,hm,hob,h⟩:=ownT_some h
    obtain⟨f,hf,h⟩:=opt_some h
    cases f with
    | none =>
      simp only [Option.map_none] at h
      obtain⟨tr',h1,h2⟩:=setT_some h
      exact⟨_,_,_,h1,by simp only [AOp.fx,hb,hm,hob,hf,Option.isSome_some,if_true];rw [ab_set h2]⟩
    | some n =>
      simp only [Option.map_some,Nat.zero_add] at h
      obtain⟨tr',h1,h2⟩:=setT_some h
      exact⟨_,_,_,h1,by simp only [AOp.fx,hb,hm,hob,hf,Option.isSome_some,if_true];rw [ab_set h2]⟩
  case mapDel k m i =>
    simp only [fxT,evR_eq,wV_eq,keyR_eq,findR_eq,eraseR_eq] at h
    obtain⟨b,hb,h⟩:=opt_some h
    obtain⟨id,es,bs,c,hm,hob,h⟩:=ownT_some h
    obtain⟨f,hf,h⟩:=opt_some h
    cases f with
    | none =>
      simp only [Option.map_none] at h
      exact⟨_,_,_,h,by simp only [AOp.fx,hb,hm,hob,hf,Option.isSome_some,if_true]⟩
    | some n =>
      simp only [Option.map_some,Nat.zero_add] at h
      obtain⟨tr',h1,h2⟩:=setT_some h
      exact⟨_,_,_,h1,by simp only [AOp.fx,hb,hm,hob,hf,Option.isSome_some,if_true];rw [ab_set h2]⟩
  case mapClear m =>
    simp only [fxT,evR_eq] at h
    obtain⟨id,es,bs,c,hm,hob,h⟩:=ownT_some h
    obtain⟨tr',h1,h2⟩:=setT_some h
    exact⟨_,_,_,h1,by simp only [AOp.fx,hm,hob];rw [ab_set h2]⟩
  case rangeM m =>
    simp only [fxT,evR_eq,obT_eq,fN_eq] at h
    split at h
    · rename_i hm
      obtain⟨tr',h1,h2⟩:=setT_some h
      exact⟨_,_,_,h1,by simp only [AOp.fx,hm];rw [show s.succ=s+1 from rfl,ab_push h2,ab_len]⟩
    · rename_i id hm
      split at h
      · rename_i es bs c hob
        obtain⟨tr',h1,h2⟩:=setT_some h
        exact⟨_,_,_,h1,by simp only [AOp.fx,hm,hob];rw [show s.succ=s+1 from rfl,ab_push h2,ab_len]⟩
      · cases h
    · cases h
  case nextM i =>
    simp only [fxT,evR_eq,obT_eq,appR_eq] at h
    split at h
    · rename_i id hi
      split at h
      · rename_i hob
        exact⟨_,_,_,h,by simp only [AOp.fx,hi,hob]⟩
      · rename_i m since seen last hob
        split at h
        · rename_i es bs c hm
          obtain⟨g1,h⟩:=opt_yes h
          split at h
          · rename_i hl
            exact⟨_,_,_,h,by simp only [AOp.fx,hi,hob,hm,g1,if_true,hl]⟩
          · rename_i p b hl
            obtain⟨g2,h⟩:=opt_yes h
            obtain⟨tr',h1,h2⟩:=setT_some h
            have g2':b<since:=Nat.le_of_ble_eq_true g2
            exact⟨_,_,_,h1,by simp only [AOp.fx,hi,hob,hm,g1,if_true,hl,g2'];rw [ab_set h2]⟩
          · cases h
        · cases h
      · cases h
    · cases h
  case entryM i =>
    simp only [fxT,evR_eq,obT_eq] at h
    split at h
    · rename_i id hi
      split at h
      · rename_i m since seen last hob
        split at h
        · rename_i b hb
          split at h
          · rename_i es bs c hm
            obtain⟨g1,h⟩:=opt_yes h
            have g1':c=last:=Nat.eq_of_beq_eq_true g1
            split at h
            · rename_i p hp
              exact⟨_,_,_,h,by simp only [AOp.fx,hi,hob,hb,hm,g1',if_true,hp]⟩
            · cases h
          · cases h
        · cases h
      · cases h
    · cases h
  case lenM m =>
    simp only [fxT,evR_eq,mapT_eq,fN_eq,lenR_eq] at h
    obtain⟨es,hes,h⟩:=opt_some h
    exact⟨_,_,_,h,by simp only [AOp.fx,hes];rfl⟩
  all_goals exact slowT_some h
end
end Go.Abs
