/- What is proved: clerkkeep.DeskCounts returns true, and leaves its argument as it was, for every text (the statement's first form). Conditions: the listed tables and variables of the library are tied to the program's text by the card; that the pinned table is what the library's text lays is the release's word, not shown here. -/
import Derived.Test.YthjclakhibnamaaGreatDoorTie
import Derived.Test.YthjclakhibnamaaGreatDoorD14
import Derived.ProofKit
import Derived.OpenShut
import Derived.Deep.DeepHandedRow
import Derived.Lay
namespace Go.Proofs.YthjclakhibnamaaGreatDoor
open Go.ChangeShapes Go.WideShapes Go.ChangeAt Go.RowKit Go.Proofs.Tryz
open Go.ChangeMaps (open_string shut_string)
set_option maxRecDepth 100000
theorem Ad(H:Type)(enc:TypeId×az->H)(W:ah)(base:Nat)(args:Array az)(a d:List (DataW H))(k:List MemPlace)(i:∀(j:Nat) t v,Tryz.f4.params[j]?=some t->args[j]?=some v->Value.okWide Tryz.prog W .any base t v)(g:DataW.Whole enc Tryz.prog Tryz.f4.params.toList Rows.deskCountsSpec.vars false W args.toList a d k)(h:(DataW.weightsEach Tryz.prog (Tryz.f4.params.toList++Rows.deskCountsSpec.plain.varTypes Tryz.prog) (a++d)).all (· <=reachBytes)=true)(n:laidMetH Tryz.prog Rows.deskCountsRow.laid W)(o:W.ShapedOpen Tryz.prog):au 4 args W λe c=>∃v,e=aw v/\Rows.deskCountsSpec.post enc Tryz.prog Tryz.f4 false true false false W args v c:=by
 have q:=g;obtain⟨u,B,f,p,rfl,z,A⟩:=g;have b:DataW.TrodAll enc Tryz.prog W 0 (λ_=>true) true Tryz.f4.params.toList args.toList a u:=f;rw[Tryz.params4]at b i h;obtain⟨x,d0,rfl,rfl,m⟩:=trodAll_one b;obtain⟨rfl,rfl⟩:=trodVars_none p;obtain⟨w,rfl,rfl,rfl,y⟩:=open_string underlying9 (i 0 9 x rfl rfl) m;clear f b h;refine(BR w (Pw n o) (aA _)).mono λe c ⟨r,s⟩=>?_;subst r;refine⟨_,rfl,_,_,_,[],[],[],q,?_,?_,rfl,s.frame _,λl=>by cases l⟩
 ·exact trodAll_mk1 (shut_bool underlying4 _)
 ·exact trodAll_mk1 (shut_string underlying9 y)
theorem KB(os:Os):laidMet Tryz.prog Rows.deskCountsRow.laid (((World.laidAll Tryz.prog os Rows.deskCountsRow.laid).forCall (λ_ _=>0) ⟨#[], #[ag ⟨#[]⟩],[]⟩).memory):=
 laidMet_laidAll _ (by kernel_rfl) (by kernel_rfl)
theorem Hu(os:Os){H:Type}(enc:TypeId×az->H):∃a,DataW.whole enc Tryz.prog ((World.laidAll Tryz.prog os Rows.deskCountsRow.laid).forCall (λ_ _=>0) ⟨#[], #[ag ⟨#[]⟩],[]⟩).memory Tryz.f4.params.toList Rows.deskCountsSpec.vars false #[ag ⟨#[]⟩].toList 8=some ([.lit (.string [])],[],a):=
 ⟨[],by kernel_rfl⟩
theorem M6:ownKnob Tryz.prog.godebug=none:=by kernel_rfl
theorem Ei(os:Os)(o:os.Started)(H:Type)(enc:TypeId×az->H)(a:Stop.Interp):ReturnsInHanded {} Tryz.checked os 4 .any ((OpenSpec.ofChange Rows.deskCountsSpec).preRow enc Tryz.prog Tryz.f4 Rows.deskCountsRow.domain false Rows.deskCountsRow.laid) (((OpenSpec.ofChange Rows.deskCountsSpec).at a).post enc Tryz.prog Tryz.f4 false true false false):=by
 obtain⟨p,n⟩:=Hu os enc
 refine returnsInHanded_of_row (C:=Tryz.checked) (s:=OpenSpec.ofChange Rows.deskCountsSpec) M6 o (by kernel_rfl) func4
  (witness_row_at (enc:=enc) (C:=Tryz.checked) false (World.laidAll Tryz.prog os Rows.deskCountsRow.laid) #[ag ⟨#[]⟩] (World.laidAll_os _ _ _) (by kernel_rfl) (by kernel_rfl) (by kernel_rfl)
   (OpenSpec.preRow_of_cond 8 n (by kernel_rfl) (λk j=>by cases j) (by kernel_rfl) (KB os))) ?_
 intro b c args e f d m i _ _ l g h _;exact Ad H enc b c args e f d m i l g h
theorem Hs:Rows.DeskCountsSaid:=
 OpenClaim.holds_of_cond 4 Tryz.f4 rfl rfl rfl rfl rfl rfl rfl ⟨rfl,rfl,rfl,rfl,rfl⟩ rfl rfl rfl rfl rfl (by kernel_rfl) func4 (by kernel_rfl)
  (iy (by kernel_rfl)) (by unfold Func.isWrapper;first|(rw[if_pos (by decide+kernel)];kernel_rfl)|(rw[if_neg (by decide+kernel)];exact⟨rfl,rfl⟩))
  (λos d b c _ a=>by rw[OpenClaim.pre_eq_preRow];exact Ei os d b c a)
theorem Ht(f : FuncId)(fn : Func)(hf : Tryz.pinned.checked.prog.funcNamed "heapmail/clerkkeep.DeskCounts" = some f)(hfn : Tryz.pinned.checked.prog.funcs[f]? = some fn):true=Tryz.pinned.checked.prog.looks []/\∀(j:Nat) t,fn.params[j]?=some t->Tryz.pinned.checked.prog.wantsStandIn t=false:=by
 obtain rfl : f = 4 := Option.some.inj ((show Tryz.prog.funcNamed "heapmail/clerkkeep.DeskCounts" = some 4 by kernel_rfl).symm.trans hf) |>.symm
 obtain rfl:fn=Tryz.f4:=(aJ (func4.symm.trans hfn)).symm;refine⟨by kernel_rfl,λj t ht=>?_⟩;rw[Tryz.params4]at ht;have ht2:t=9:=by simpa using Array.mem_of_getElem? ht
 subst ht2;exact(show Tryz.prog.wantsStandIn 9=false by kernel_rfl)
theorem dkc_card:Rows.DeskCountsCardSaid:=
 Claim7.holds_tied_plain_at .later [] _ _ _ _ Hs (λ_ a=>by cases a) (by kernel_rfl) (λ_ a=>by cases a) deskCounts_row_tie rfl ⟨rfl,rfl⟩ (by kernel_rfl) rfl Ht (by kernel_rfl)
end Go.Proofs.YthjclakhibnamaaGreatDoor
