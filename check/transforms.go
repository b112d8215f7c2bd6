package check

import (
	"slices"

	"lathe/api"
)

// transforms are the rows of all transforms.
func transforms() []row {
	return slices.Concat(plainTransforms(), momentTransforms(), outerTransforms())
}

// starred is the row of a transform that does not see complex numbers.
func starred(r row) row {
	r.star = true
	return r
}

// plainTransforms are those that keep no moments and have no transform within.
func plainTransforms() []row {
	return []row{
		rowOf("identity", api.TxIdentity),
		rowOf("set_to_zero", api.TxZero),
		rowOf("scale", api.TxScale, number("factor", needed, anyNumber)),
		rowOf("scale_by_schedule", api.TxSchedule, other("schedule", sortSchedule)),
		starred(rowOf("clip", api.TxClip, number("max_delta", needed, fromZero))),
		rowOf("clip_by_global_norm", api.TxGlobalNorm, number("max_norm", needed, aboveZero)),
		rowOf("clip_by_block_rms", api.TxBlockRms, number("threshold", needed, aboveZero)),
		rowOf("clip_by_block_norm", api.TxBlockNorm, number("max_norm", needed, aboveZero)),
		rowOf("adaptive_grad_clip", api.TxAdaptive, number("clipping", needed, aboveZero), number("eps", "1e-3", fromZero)),
		starred(rowOf("scale_by_sign", api.TxSign)),
		rowOf("scale_by_trust_ratio", api.TxTrust,
			number("min_norm", "0.0", fromZero), number("coefficient", "1.0", aboveZero), number("eps", "0.0", fromZero)),
		rowOf("scale_by_param_block_rms", api.TxParamRms, number("min_scale", "1e-3", fromZero)),
		rowOf("scale_by_param_block_norm", api.TxParamNorm, number("min_scale", "1e-3", fromZero)),
		rowOf("normalize_by_update_norm", api.TxNormalize, number("scale", "1.0", anyNumber), number("eps", "1e-6", fromZero)),
		rowOf("add_decayed_weights", api.TxDecay, number("weight", needed, anyNumber)),
		rowOf("centralize", api.TxCentralize),
		rowOf("zero_nans", api.TxZeroNans),
		starred(rowOf("keep_params_nonnegative", api.TxNonnegative)),
		starred(rowOf("keep_params_in_box", api.TxBox, number("low", needed, anyNumber), number("high", needed, anyNumber))),
		rowOf("apply_every", api.TxEvery, whole("every", 1, api.MaxCount)),
	}
}

// momentTransforms are those that keep moments of the gradients.
func momentTransforms() []row {
	b1, b2 := number("b1", "0.9", belowOne), number("b2", "0.999", belowOne)
	return []row{
		rowOf("trace", api.TxTrace, number("decay", needed, zeroToOne), flag("nesterov", "false")),
		rowOf("ema", api.TxEma, number("decay", needed, belowOne), flag("debias", "true")),
		rowOf("scale_by_adam", api.TxAdam, b1, b2, number("eps", "1e-8", fromZero), number("eps_root", "0.0", fromZero)),
		rowOf("scale_by_amsgrad", api.TxAmsgrad, b1, b2, number("eps", "1e-8", fromZero), number("eps_root", "0.0", fromZero)),
		rowOf("scale_by_belief", api.TxBelief, b1, b2, number("eps", "1e-16", fromZero), number("eps_root", "1e-16", fromZero)),
		rowOf("scale_by_yogi", api.TxYogi, b1, b2, number("eps", "1e-3", fromZero), number("initial", "1e-6", fromZero)),
		rowOf("scale_by_adamax", api.TxAdamax, b1, b2, number("eps", "1e-8", fromZero)),
		rowOf("scale_by_novograd", api.TxNovograd, b1, number("b2", "0.25", belowOne),
			number("eps", "1e-6", fromZero), number("eps_root", "0.0", fromZero), number("weight_decay", "0.0", anyNumber)),
		starred(rowOf("scale_by_lion", api.TxLion, b1, number("b2", "0.99", belowOne))),
		rowOf("scale_by_rms", api.TxRms,
			number("decay", "0.9", belowOne), number("eps", "1e-8", fromZero), number("initial", "0.0", fromZero)),
		rowOf("scale_by_stddev", api.TxStddev,
			number("decay", "0.9", belowOne), number("eps", "1e-8", fromZero), number("initial", "0.0", fromZero)),
		rowOf("scale_by_rss", api.TxRss, number("initial", "0.1", fromZero), number("eps", "1e-7", fromZero)),
		rowOf("scale_by_adadelta", api.TxAdadelta, number("rho", "0.9", belowOne), number("eps", "1e-6", fromZero)),
		rowOf("scale_by_optimistic_gradient", api.TxOptimistic, number("alpha", "1.0", anyNumber), number("beta", "1.0", anyNumber)),
	}
}

// outerTransforms are those that have transforms within.
func outerTransforms() []row {
	inner, one := other("inner", sortTransform), other("", sortTransform)
	return []row{
		{name: "chain", op: api.TxChain, more: []argument{one}},
		rowOf("masked", api.TxMasked, other("mask", sortMask), inner),
		{name: "partition", op: api.TxPartition, more: []argument{other("", sortMask), one}, last: []argument{one}},
		rowOf("multi_steps", api.TxMultiSteps, whole("every", 1, api.MaxCount), inner),
		rowOf("apply_if_finite", api.TxIfFinite, inner, whole("max_errors", 0, api.MaxCount)),
		rowOf("split_real_and_imaginary", api.TxSplit, inner),
		rowOf("skip_large", api.TxSkipLarge, inner, number("max_norm", needed, aboveZero)),
		rowOf("until", api.TxUntil, whole("steps", 1, api.MaxCount), other("first", sortTransform), other("then", sortTransform)),
	}
}
